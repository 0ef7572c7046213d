"""The texts of statements."""

from soonsaid.errors import BadText
from soonsaid.statements import MOST_LATER, MOST_NESTED, PARTS, is_mark, parts_of


def written(statement):
    """The text of the statement."""
    word = statement[0]
    if word == "mark":
        return "'" + statement[1] + "'"
    if word == "yes":
        return word
    parts = [written(part) for part in parts_of(statement)]
    if word == "within":
        parts = [str(statement[1])] + parts
    return word + "(" + ", ".join(parts) + ")"


def read(text):
    """The statement of which just this is written."""
    # Only plain texts, as with marks.
    if type(text) != str:
        raise BadText("this is no text")
    return _read_nested(text, MOST_NESTED)


def _read_nested(text, most):
    """The statement of which just this is written, if at most so many stand within one another in it."""
    # The depth is watched on the way down, so that a text of any depth is refused in a few steps.
    if most == 0:
        raise BadText("too many statements stand within one another")
    if text == "yes":
        return ("yes",)
    if text.startswith("'"):
        return ("mark", _read_mark(text))
    word, _, rest = text.partition("(")
    if not rest.endswith(")"):
        raise BadText("a bracket is missing")
    inner = rest[:-1]
    if word == "within":
        figure, _, part = inner.partition(", ")
        return (word, _read_figure(figure), _read_nested(part, most - 1))
    if word not in PARTS or PARTS[word] == 0:
        raise BadText("this is no word of a statement that has parts")
    if PARTS[word] == 1:
        return (word, _read_nested(inner, most - 1))
    first, second = _parted(inner)
    return (word, _read_nested(first, most - 1), _read_nested(second, most - 1))


def _read_mark(text):
    """The mark in the quotes."""
    mark = text[1:-1]
    if text != "'" + mark + "'" or mark == "" or not is_mark(mark):
        raise BadText("this is no mark in single quotes")
    return mark


def _read_figure(text):
    """The number of a within."""
    figures = [str(number) for number in range(MOST_LATER + 1)]
    if text not in figures:
        raise BadText("this is no figure of a within")
    return figures.index(text)


def _parted(text):
    """What stands ahead of and behind the first comma, with its blank, that is in no brackets."""
    depth = 0
    for at, sign in enumerate(text):
        if sign == "(":
            depth += 1
        elif sign == ")":
            depth -= 1
        elif depth == 0 and text[at:at + 2] == ", ":
            return (text[:at], text[at + 2:])
    raise BadText("there are not two parts")
