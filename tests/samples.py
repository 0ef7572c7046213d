"""Statements, runs and other things that several tests look at."""

import itertools
import random

from soonsaid.plans import begun, stepped
from soonsaid.statements import is_mixed, wishes_in

A = ("mark", "a")
B = ("mark", "b")
YES = ("yes",)

ONE_PART = ("not", "next", "before")
TWO_PARTS = ("and", "or", "until", "since")


def built_on(parts):
    """All statements whose parts are of these."""
    found = [(word, part) for word in ONE_PART for part in parts]
    found += [("within", k, part) for k in range(5) for part in parts]
    found += [(word, s, t) for word in TWO_PARTS for s in parts for t in parts]
    return found


def small_statements():
    """All statements of depth 1 and 2 over two marks."""
    return [A, B, YES] + built_on([A, B, YES])


def grown(chance, depth):
    """A statement of at most that depth, by chance."""
    if depth == 1 or chance.randrange(6) == 0:
        return chance.choice([A, B, YES])
    word = chance.choice(ONE_PART + TWO_PARTS + ("within", "within"))
    if word == "within":
        return (word, chance.randrange(5), grown(chance, depth - 1))
    if word in ONE_PART:
        return (word, grown(chance, depth - 1))
    return (word, grown(chance, depth - 1), grown(chance, depth - 1))


def large_statements(many, depth):
    """So many statements of at most that depth, the same ones each time."""
    chance = random.Random(20)
    return [grown(chance, depth) for _ in range(many)]


def small_told():
    """Of the statements of depth 1 and 2 those that aren't mixed."""
    return [statement for statement in small_statements() if not is_mixed(statement)]


def large_told(many, depth):
    """Of so many statements of at most that depth those that can be told mark by mark."""
    return [statement for statement in large_statements(many, depth)
            if not is_mixed(statement) and len(wishes_in(statement)) <= 6]


def behind(plan, run):
    """The state behind the marks of the run."""
    state = begun(plan)
    for mark in run:
        state = stepped(plan, state, mark)
    return state


def runs(longest):
    """All runs of 1 to so many of the marks "", "a" and "b"."""
    found = []
    for length in range(1, longest + 1):
        found += [list(run) for run in itertools.product(["", "a", "b"], repeat=length)]
    return found


def nested(many, word="not"):
    """A mark within so many statements that all have this word, the mark itself counted."""
    statement = A
    for _ in range(many - 1):
        statement = (word, statement)
    return statement


class Liar:
    """A thing that says that it is what it isn't, and equals everything."""

    def __init__(self, kind):
        self.kind = kind

    @property
    def __class__(self):
        return self.kind

    def __eq__(self, other):
        return True

    __hash__ = None


class Word(str):
    """An heir of str that equals everything."""

    def __eq__(self, other):
        return True

    __hash__ = None


class Sour:
    """A thing that can't be compared, measured or asked whether it is true."""

    def __eq__(self, other):
        raise RuntimeError("not to be compared")

    def __len__(self):
        raise RuntimeError("not to be measured")

    def __bool__(self):
        raise RuntimeError("not to be asked")

    __hash__ = None


def other_things():
    """Things of every kind that are neither a mark nor a statement."""
    return [None, True, False, 0, 1, -1, 2.5, 1j, b"", b"a", bytearray(b"a"), [], ["a"], ["yes"], ["mark", "a"],
            {}, {"a": 1}, {"mark": "a"}, {"a"}, frozenset({"a"}), range(3), object(), str, tuple, len, print,
            iter(["a"]), (letter for letter in "a"), ValueError("a"), Ellipsis, NotImplemented, float("nan"),
            Liar(str), Liar(tuple), Liar(int), Sour()]
