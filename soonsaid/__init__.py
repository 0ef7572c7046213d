"""Soonsaid: what statements say of runs of marks, as soon as it is sure."""
