"""What is kept of a run mark by mark, and the table of what the run can come to."""

from soonsaid.statements import PAST, awaited, each_once, marks_in, parts_of, pasts_in, standing_in, wishes_in


class Plan:
    """What leads from state to state, of a statement that isn't mixed. Its fields are only read."""

    def __init__(self, statement):
        self.wishes = wishes_in(statement)
        self.pasts = pasts_in(statement)
        self.marks = marks_in(statement)
        self.weights = [1 << number for number in range(len(self.wishes) + 1)]
        # Whether a statement holds is worked out for all places of a table at once, as the bits of a number.
        self.everywhere = (1 << self.weights[-1]) - 1
        # Each statement is worked out once a mark, behind its parts, however often it stands in the wishes.
        standing = each_once([part for wish in self.wishes for part in standing_in(wish)])
        self.lines = [_line(self, standing, statement) for statement in standing]
        self.wish_lines = [standing.index(wish) for wish in self.wishes]
        self.kept_lines = [standing.index(_kept_of(past)) for past in self.pasts]


def _line(plan, standing, statement):
    """A tuple of its word, of where its first and its last part stand, and of what else it is worked out from."""
    # A mark and a yes have no parts, and never look at the line that is given instead.
    parts = [standing.index(part) for part in parts_of(statement)] or [0]
    return (statement[0], parts[0], parts[-1], _beside(plan, statement))


def _beside(plan, statement):
    """The mark of a mark, the number of a past among the pasts, and of what looks ahead the bits of what it awaits."""
    if statement[0] == "mark":
        return statement[1]
    if statement[0] in PAST:
        return plan.pasts.index(statement)
    return sum([_bits_of_wish(plan, wish) for wish in awaited(statement)])


def _bits_of_wish(plan, wish):
    """The bits of the places that count on the wish: those in which its weight is."""
    weight = plan.weights[plan.wishes.index(wish)]
    return sum([1 << place for place in range(plan.weights[-1]) if (place & weight) > 0])


def _kept_of(past):
    """The statement of which is kept whether it held."""
    return past[1] if past[0] == "before" else past


def begun(plan):
    """The state ahead of the first mark."""
    # The next moment is moment 0, and the first wish, of weight 1, is what holds there or doesn't.
    table = tuple([(place & 1) > 0 for place in range(plan.weights[-1])])
    return ((False,) * len(plan.pasts), table)


def stepped(plan, state, mark):
    """The state behind one more mark."""
    return turned(state, turn_of(plan, state[0], mark))


def is_met(state):
    """Whether the statement holds if the run ends here."""
    return state[1][0]


def turn_of(plan, kept, mark):
    """What one more mark does to all states that keep this: what is kept then, and from where each place is taken."""
    bits = _bits_here(plan, kept, mark)
    # What is kept doesn't look ahead, so it holds at all places or at none.
    later = tuple([bits[line] > 0 for line in plan.kept_lines])
    places = [0] * plan.weights[-1]
    for weight, line in zip(plan.weights, plan.wish_lines):
        wished = bits[line]
        places = [place + weight * ((wished >> at) & 1) for at, place in enumerate(places)]
    return (later, places)


def turned(state, turn):
    """The state that a turn makes of one that keeps what the turn is of."""
    later, places = turn
    table = state[1]
    return (later, tuple([table[place] for place in places]))


def _bits_here(plan, kept, mark):
    """Of each line whether it holds at this mark: bit n, if just the wishes of place n hold at the next moment."""
    everywhere = plan.everywhere
    found = []
    for word, first, last, beside in plan.lines:
        if word == "mark":
            bits = everywhere if mark == beside else 0
        elif word == "yes":
            bits = everywhere
        elif word == "not":
            bits = everywhere ^ found[first]
        elif word == "and":
            bits = found[first] & found[last]
        elif word == "or":
            bits = found[first] | found[last]
        elif word == "next":
            bits = beside
        elif word == "until":
            bits = found[last] | (found[first] & beside)
        elif word == "within":
            bits = found[last] | beside
        elif word == "before":
            bits = everywhere if kept[beside] else 0
        else:
            bits = found[last] | (found[first] if kept[beside] else 0)
        found.append(bits)
    return found
