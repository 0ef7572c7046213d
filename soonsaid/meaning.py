"""Whether a statement holds at a moment of a run."""

from soonsaid.statements import parts_of


def holds(statement, run, at):
    """Whether the statement holds at that moment of the run."""
    return row_of(statement, run)[at]


def row_of(statement, run):
    """A list that tells of each moment of the run whether the statement holds at it."""
    # Whole rows, from the innermost parts out: each moment is looked at once for each statement,
    # where asking moment by moment would ask again and again for untils within untils.
    word = statement[0]
    if word == "mark":
        return [mark == statement[1] for mark in run]
    if word == "yes":
        return [True] * len(run)
    rows = [row_of(part, run) for part in parts_of(statement)]
    if word == "within":
        return [any(rows[0][at:at + statement[1] + 1]) for at in range(len(run))]
    if len(rows) == 1:
        return _row_of_one(word, rows[0])
    return _row_of_two(word, rows[0], rows[1])


def _row_of_one(word, row):
    """The row of a not, a next or a before, from the row of its part."""
    if word == "not":
        return [not there for there in row]
    if word == "next":
        return (row + [False])[1:]
    return ([False] + row)[:-1]


def _row_of_two(word, first, second):
    """The row of an and, an or, an until or a since, from the rows of its parts."""
    if word == "and":
        return [one and other for one, other in zip(first, second)]
    if word == "or":
        return [one or other for one, other in zip(first, second)]
    if word == "since":
        return _since(first, second)
    # An until is a since of the run read from its end.
    return _since(first[::-1], second[::-1])[::-1]


def _since(first, second):
    """The row of a since, from the rows of its parts."""
    row = []
    held = False
    for one, other in zip(first, second):
        held = other or (one and held)
        row.append(held)
    return row
