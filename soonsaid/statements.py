"""What a statement is, and what stands in one."""

from soonsaid.errors import BadStatement, Mixed, TooMany

LETTERS = "abcdefghijklmnopqrstuvwxyz"
MOST_LETTERS = 6
MOST_NESTED = 6
MOST_LATER = 4
MOST_WISHES = 6

# How many parts stand behind the word, for the words that have nothing but statements behind them.
PARTS = {"yes": 0, "not": 1, "and": 2, "or": 2, "next": 1, "until": 2, "before": 1, "since": 2}
AHEAD = ("next", "until", "within")
PAST = ("before", "since")


def is_mark(thing):
    """Whether it is a text of 0 to 6 small letters."""
    # Only plain texts, tuples and numbers count, here and below: an heir of these may change later, or lie.
    return type(thing) == str and len(thing) <= MOST_LETTERS and all(letter in LETTERS for letter in thing)


def is_statement(thing):
    """Whether it is a statement."""
    return _is_nested(thing, MOST_NESTED)


def _is_nested(thing, most):
    """Whether it is a statement of which at most so many stand within one another."""
    # The depth is watched on the way down, so that a thing of any depth is told in a few steps.
    if most == 0 or type(thing) != tuple or len(thing) == 0:
        return False
    word = thing[0]
    if type(word) != str:
        return False
    if word == "mark":
        return len(thing) == 2 and is_mark(thing[1]) and thing[1] != ""
    if word == "within":
        return len(thing) == 3 and _is_later(thing[1]) and _is_nested(thing[2], most - 1)
    if word not in PARTS or len(thing) != PARTS[word] + 1:
        return False
    return all(_is_nested(part, most - 1) for part in thing[1:])


def _is_later(thing):
    """Whether it is a number of moments that a within can have."""
    # True and False have a kind of their own, so they fall out here.
    return type(thing) == int and 0 <= thing <= MOST_LATER


def parts_of(statement):
    """A list of the statements that stand right in this one, in their order."""
    return [part for part in statement[1:] if isinstance(part, tuple)]


def standing_in(statement):
    """A list of all statements that stand in this one, each behind its parts, so itself last."""
    found = []
    for part in parts_of(statement):
        found.extend(standing_in(part))
    found.append(statement)
    return found


def each_once(statements):
    """A list of the statements in their order, each once."""
    # A search in a list, since as keys of a dict tuples must not be nested deep.
    found = []
    for statement in statements:
        if statement not in found:
            found.append(statement)
    return found


def looks_ahead(statement):
    """Whether a next, an until or a within stands in it."""
    return any(part[0] in AHEAD for part in standing_in(statement))


def pasts_in(statement):
    """A list of the befores and sinces in it, each once, each behind those that stand in it."""
    return each_once([part for part in standing_in(statement) if part[0] in PAST])


def is_mixed(statement):
    """Whether a before or a since that looks ahead stands in it."""
    return any(looks_ahead(past) for past in pasts_in(statement))


def marks_in(statement):
    """A list of the empty mark and of those that it names, rising, each once."""
    named = [part[1] for part in standing_in(statement) if part[0] == "mark"]
    return sorted(set(named + [""]))


def awaited(statement):
    """A list of what it hangs on at the next moment by its own word, not by its parts: one statement or none."""
    word = statement[0]
    if word == "next":
        return [statement[1]]
    if word == "until":
        return [statement]
    if word == "within" and statement[1] > 0:
        return [("within", statement[1] - 1, statement[2])]
    return []


def hung_on(statement):
    """A list of the statements of which it matters here whether they hold at the next moment."""
    found = awaited(statement)
    # Nothing that looks ahead stands in a before or a since that isn't mixed, so nothing is found there.
    if statement[0] != "next":
        for part in parts_of(statement):
            found.extend(hung_on(part))
    return found


def wishes_in(statement):
    """A list of its wishes, each once, the statement itself first; of one that isn't mixed."""
    wishes = [statement]
    done = 0
    while done < len(wishes):
        wishes = each_once(wishes + hung_on(wishes[done]))
        done += 1
    return wishes


def need_told(statement):
    """The statement, if it can be told mark by mark; else it is refused."""
    if not is_statement(statement):
        raise BadStatement("this is no statement")
    if is_mixed(statement):
        raise Mixed("a before or a since in the statement looks ahead")
    if len(wishes_in(statement)) > MOST_WISHES:
        raise TooMany("the statement has more than six wishes")
    return statement
