"""What can come behind a state, and the rows of marks that lead there."""

from soonsaid.plans import is_met, turn_of, turned


def reached(plan, state):
    """A list of the states that can come behind this one, each once, the state itself first."""
    return [later for later, _ in _spread(plan, state, True)]


def verdict(plan, state):
    """What is sure: "yes" if all states that can come are met, "no" if none is, else "open"."""
    for later, _ in _spread(plan, state, False):
        if is_met(later) != is_met(state):
            return "open"
    return "yes" if is_met(state) else "no"


def going(plan, state, wanted):
    """The first of the shortest rows of marks that lead to a state that is met, or that isn't; None without any."""
    for later, row in _spread(plan, state, False):
        if is_met(later) == wanted:
            return row
    return None


def _spread(plan, start, past_settled):
    """Each state that can come behind this one, with the marks that lead to it.

    If past_settled is False, those that come only behind a settled one are left out: they are met as that one is.
    """
    # The rows come in their order, the shorter first and of one length as Python orders lists, since the marks
    # rise: so the row with which a state is found is the first of the shortest that lead to it.
    rows = {start: []}
    found = [start]
    turns = {}
    yield start, rows[start]
    done = 0
    while done < len(found):
        state = found[done]
        done += 1
        if not past_settled and _is_settled(state):
            continue
        # Many states keep the same: what the marks do to these is worked out once.
        if state[0] not in turns:
            turns[state[0]] = [turn_of(plan, state[0], mark) for mark in plan.marks]
        for mark, turn in zip(plan.marks, turns[state[0]]):
            later = turned(state, turn)
            if later not in rows:
                rows[later] = rows[state] + [mark]
                found.append(later)
                yield later, rows[later]


def _is_settled(state):
    """Whether the places of its table are alike, and so all states behind it are met, or none is."""
    return all(state[1]) or not any(state[1])
