import itertools
import unittest

from soonsaid.errors import BadMark, BadStatement, Mixed, NoMark, TooMany
from soonsaid.meaning import holds
from soonsaid.statements import marks_in
from soonsaid.tellers import Teller
from tests.samples import A, B, YES, Word, large_told, nested, other_things, runs, small_told

UNTIL = ("until", A, B)
SINCE = ("since", A, B)
BEFORE = ("before", A)
ALWAYS = ("or", A, ("not", A))
NEVER = ("and", ("next", A), ("not", ("next", A)))
SIX = ("next", ("within", 4, A))

# What is sure of these is sure within four more marks, or never.
SMALL = [A, YES, ALWAYS, NEVER, UNTIL, BEFORE, SINCE, ("not", YES), ("next", A), ("next", YES), ("within", 0, A),
         ("within", 1, A), ("within", 2, ("not", B)), ("until", YES, A), ("not", ("until", YES, ("not", A))),
         ("next", BEFORE), ("and", UNTIL, SINCE), ("or", ("next", SINCE), UNTIL), ("until", ("not", BEFORE), B),
         ("within", 2, ("and", BEFORE, B)), ("until", ("not", BEFORE), ("and", B, BEFORE)),
         ("not", ("until", ("next", A), B)), ("next", ("next", ("and", A, ("before", B)))),
         ("until", YES, ("and", A, B)), ("next", ("not", ("next", YES))), ("until", SINCE, ("mark", "c")),
         ("not", ("within", 4, ("since", YES, A))), ("until", YES, ("and", A, ("next", ("not", A))))]


def told(statement, run):
    """A teller of the statement that was told the marks of the run."""
    teller = Teller(statement)
    for mark in run:
        teller.tell(mark)
    return teller


def answers(statement, marks, longest):
    """A dict of all runs of at most so many marks, and whether the statement holds at moment 0 of each."""
    return {run: holds(statement, list(run), 0)
            for length in range(1, longest + 1) for run in itertools.product(marks, repeat=length)}


def sure(statement, marks, longest, more):
    """A dict of all runs of at most so many marks, and what is sure behind so many more."""
    held = {run: {here} for run, here in answers(statement, marks, longest + more).items()}
    for run in sorted(held, key=len, reverse=True)[:-len(marks)]:
        held[run[:-1]] |= held[run]
    return {run: "open" if len(found) == 2 else "yes" if True in found else "no"
            for run, found in held.items() if len(run) <= longest}


class Tell(unittest.TestCase):
    def says(self, statement, run, *wanted):
        """Checks what is said behind each mark."""
        teller = Teller(statement)
        for mark, word in zip(run, wanted, strict=True):
            self.assertEqual(teller.tell(mark), word)
            self.assertEqual(teller.said(), word)
        self.assertEqual(teller.row(), run)

    def test_until(self):
        self.says(UNTIL, ["a", "a", "b", "", "a"], "open", "open", "yes", "yes", "yes")
        self.says(UNTIL, ["a", "", "b"], "open", "no", "no")
        self.says(UNTIL, ["b"], "yes")
        self.says(UNTIL, ["abc", "b"], "no", "no")

    def test_ahead_of_the_first_mark_it_is_open(self):
        for statement in SMALL + [SIX]:
            self.assertEqual(Teller(statement).said(), "open")

    def test_what_always_holds_and_what_never_does(self):
        self.says(YES, ["", "a"], "yes", "yes")
        self.says(ALWAYS, ["b"], "yes")
        self.says(("not", YES), ["", "a"], "no", "no")
        self.says(NEVER, ["a", "a"], "no", "no")
        self.says(BEFORE, ["a", "a"], "no", "no")
        self.says(("until", YES, ("and", A, B)), ["a", "b"], "no", "no")
        self.says(("not", ("until", YES, ("and", A, B))), ["a", "b"], "yes", "yes")

    def test_a_mark(self):
        self.says(A, ["a", "b"], "yes", "yes")
        self.says(A, ["b", "a"], "no", "no")

    def test_within(self):
        self.says(("within", 0, A), ["a"], "yes")
        self.says(("within", 0, A), ["", "a"], "no", "no")
        self.says(("within", 2, A), ["", "", "a"], "open", "open", "yes")
        self.says(("within", 2, A), ["", "", "", "a"], "open", "open", "no", "no")
        self.says(("within", 4, A), [""] * 5, "open", "open", "open", "open", "no")

    def test_six_wishes(self):
        self.says(SIX, ["a"] + [""] * 5, "open", "open", "open", "open", "open", "no")
        self.says(SIX, ["a", "", "", "", "", "a"], "open", "open", "open", "open", "open", "yes")
        self.says(nested(6, "next"), ["", "", "", "", "", "a"], "open", "open", "open", "open", "open", "yes")

    def test_where_the_run_ends_counts(self):
        self.says(("next", YES), ["", ""], "open", "yes")
        self.says(("not", ("next", YES)), ["", ""], "open", "no")
        self.says(("next", ("not", ("next", YES))), ["", "", ""], "open", "open", "no")

    def test_pasts(self):
        self.says(("next", BEFORE), ["a", ""], "open", "yes")
        self.says(("next", BEFORE), ["b", "a"], "no", "no")
        self.says(("until", SINCE, ("mark", "c")), ["b", "a", "c"], "open", "open", "yes")
        self.says(("until", SINCE, ("mark", "c")), ["b", "", "c"], "open", "no", "no")

    def test_the_same_before_twice(self):
        statement = ("until", ("not", BEFORE), ("and", B, BEFORE))
        self.says(statement, ["", "b", "a", "b"], "open", "open", "open", "yes")
        self.says(statement, ["", "a", "a", "b"], "open", "open", "no", "no")

    def test_said_at_the_first_mark_at_which_it_is_sure(self):
        for statement in SMALL:
            marks = ["", "a", "b"] if marks_in(statement) != ["", "a", "b", "c"] else ["", "a", "b", "c"]
            longest, more = (3, 5) if len(marks) == 3 else (3, 4)
            for run, wanted in sure(statement, marks, longest, more).items():
                self.assertEqual(told(statement, run).said(), wanted, (statement, run))

    def test_other_small_ones(self):
        for statement in small_told()[1::4]:
            for run, wanted in sure(statement, ["zz", "a", "b"], 2, 5).items():
                self.assertEqual(told(statement, run).said(), wanted, (statement, run))

    def test_what_is_sure_stays(self):
        for statement in SMALL + large_told(100, 6):
            for run in runs(4)[::5]:
                teller = Teller(statement)
                words = [teller.tell(mark) for mark in run]
                for at, word in enumerate(words):
                    self.assertIn(word, ["yes", "no", "open"])
                    if word != "open":
                        self.assertEqual(set(words[at:]), {word}, (statement, run))
                        self.assertIs(holds(statement, run, 0), word == "yes", (statement, run))

    def test_a_long_run(self):
        teller = Teller(("and", ("until", YES, ("and", B, BEFORE)), ("not", ("until", YES, ("mark", "c")))))
        for _ in range(5000):
            self.assertEqual(teller.tell("a"), "open")
        self.assertEqual(teller.tell("b"), "open")
        self.assertEqual(teller.ways(), ([], ["c"]))
        self.assertEqual(teller.tell("c"), "no")
        self.assertEqual(len(teller.row()), 5002)


class BadMarks(unittest.TestCase):
    def test_refused_and_nothing_is_changed(self):
        for run in [[], ["a"], ["a", "b"], [""]]:
            teller = told(UNTIL, run)
            before = (teller.said(), teller.row(), teller.ways() if run else None, teller.end() if run else None)
            texts = ["A", "a ", " ", "'a'", "abcdefg", "a1", "\u00e9", "a\n", Word("a")]
            for thing in other_things() + texts + [A, ("a",)]:
                with self.assertRaises(BadMark):
                    teller.tell(thing)
                after = (teller.said(), teller.row(), teller.ways() if run else None, teller.end() if run else None)
                self.assertEqual(after, before)
            for mark in ["a", "b"]:
                self.assertEqual(teller.tell(mark), told(UNTIL, teller.row()).said())

    def test_still_ahead_of_the_first_mark(self):
        teller = Teller(("not", YES))
        with self.assertRaises(BadMark):
            teller.tell("B")
        self.assertEqual(teller.said(), "open")
        for ask in [teller.end, teller.ways]:
            with self.assertRaises(NoMark):
                ask()


class Refusals(unittest.TestCase):
    def refused(self, thing):
        """The kind of error with which it is refused."""
        with self.assertRaises(ValueError) as caught:
            Teller(thing)
        return type(caught.exception)

    def test_bad_statement(self):
        for thing in other_things() + ["", "yes", "'a'", (), list(A), nested(7), nested(3000), ("mark", ""),
                                       ("within", 5, A), ("within", True, A), ("not", "a")]:
            self.assertIs(self.refused(thing), BadStatement, type(thing))

    def test_mixed(self):
        for statement in [("before", ("next", A)), ("since", A, UNTIL), ("next", ("before", ("within", 0, A)))]:
            self.assertIs(self.refused(statement), Mixed, statement)

    def test_seven_wishes(self):
        for statement in [("next", SIX), ("or", ("and", ("within", 4, A), UNTIL), ("next", B))]:
            self.assertIs(self.refused(statement), TooMany, statement)

    def test_in_this_order(self):
        mixed = ("before", ("next", A))
        self.assertIs(self.refused(("and", ("next", SIX), mixed)), Mixed)
        self.assertIs(self.refused(("and", mixed, "a")), BadStatement)
        self.assertIs(self.refused(("before", nested(6, "next"))), BadStatement)

    def test_ahead_of_the_first_mark(self):
        for statement in [UNTIL, YES, ("not", YES), BEFORE, SIX]:
            teller = Teller(statement)
            for ask in [teller.end, teller.ways]:
                with self.assertRaises(NoMark):
                    ask()
            self.assertEqual((teller.said(), teller.row()), ("open", []))
            teller.tell("a")
            self.assertIs(teller.end(), holds(statement, ["a"], 0))


class End(unittest.TestCase):
    def test_until(self):
        self.assertIs(told(UNTIL, ["a"]).end(), False)
        self.assertIs(told(UNTIL, ["b"]).end(), True)
        self.assertIs(told(UNTIL, ["b", ""]).end(), True)
        self.assertIs(told(("not", UNTIL), ["a"]).end(), True)

    def test_a_run_that_ends_at_its_first_mark(self):
        for statement in SMALL + [SIX]:
            for mark in ["", "a", "b", "zz"]:
                self.assertIs(told(statement, [mark]).end(), holds(statement, [mark], 0), (statement, mark))

    def test_by_the_meaning(self):
        for statement in SMALL + large_told(150, 6):
            for run in runs(4)[::5]:
                self.assertIs(told(statement, run).end(), holds(statement, run, 0), (statement, run))


class Ways(unittest.TestCase):
    def test_until(self):
        self.assertEqual(told(UNTIL, ["a"]).ways(), (["b"], []))
        self.assertEqual(told(("not", UNTIL), ["a"]).ways(), ([], ["b"]))

    def test_none_where_yes_or_no_is_said(self):
        for statement, run in [(UNTIL, ["b"]), (UNTIL, [""]), (YES, [""]), (NEVER, ["a"]), (BEFORE, ["b"]),
                               (UNTIL, ["a", "b", "a"])]:
            self.assertIs(told(statement, run).ways(), None, (statement, run))

    def test_the_first_of_the_shortest(self):
        statement = ("next", ("or", ("next", ("mark", "ca")), ("next", ("or", ("mark", "c"), ("mark", "d")))))
        self.assertEqual(told(statement, ["d"]).ways(), (["", "c"], []))
        self.assertEqual(told(statement, ["d", "ca"]).ways(), (["c"], []))
        statement = ("not", ("within", 2, ("or", ("mark", "b"), ("mark", "aa"))))
        self.assertEqual(told(statement, ["c"]).ways(), ([], ["aa"]))
        self.assertEqual(told(("not", ("next", YES)), ["c"]).ways(), ([], [""]))

    def test_of_the_marks_of_the_statement_only(self):
        statement = ("next", ("not", ("or", A, ("not", ("or", A, B)))))
        self.assertEqual(told(statement, ["zz"]).ways(), (["b"], []))

    def test_long_ways(self):
        self.assertEqual(told(nested(6, "next"), ["b"]).ways(), (["", "", "", "", "a"], []))
        self.assertEqual(told(("not", SIX), ["b"]).ways(), ([], ["a"]))
        self.assertEqual(told(("not", nested(5, "next")), ["b"]).ways(), ([], ["", "", "", "a"]))

    def test_each_leads_there_and_no_shorter_or_earlier_one_does(self):
        for statement in SMALL:
            marks = marks_in(statement)
            for run in runs(2):
                teller = told(statement, run)
                ways = teller.ways()
                if teller.said() != "open":
                    self.assertIs(ways, None, (statement, run))
                    continue
                self.assertEqual((type(ways), type(ways[0]), type(ways[1])), (tuple, list, list))
                for way, wanted in zip(ways, [True, False], strict=True):
                    rows = [list(row) for length in range(len(way) + 1)
                            for row in itertools.product(marks, repeat=length)]
                    leading = [row for row in rows if holds(statement, run + row, 0) is wanted]
                    shortest = [row for row in leading if len(row) == len(leading[0])]
                    self.assertEqual(way, min(shortest), (statement, run, wanted))

    def test_each_leads_there_in_large_ones(self):
        for statement in large_told(200, 6):
            for run in runs(2)[::2]:
                ways = told(statement, run).ways()
                if ways:
                    self.assertIs(holds(statement, run + ways[0], 0), True, (statement, run))
                    self.assertIs(holds(statement, run + ways[1], 0), False, (statement, run))
                    self.assertEqual(told(statement, run + ways[0]).end(), True)


class Marks(unittest.TestCase):
    def test_one_that_is_not_named_is_as_the_empty_one(self):
        for statement in SMALL:
            for run in runs(3)[::4]:
                other = told(statement, [mark or "zzzzzz" for mark in run])
                teller = told(statement, run)
                self.assertEqual(other.said(), teller.said())
                self.assertEqual(other.ways(), teller.ways())
                self.assertEqual(other.end(), teller.end())
                self.assertEqual(other.row(), [mark or "zzzzzz" for mark in run])

    def test_the_empty_one(self):
        self.assertEqual(told(A, [""]).said(), "no")
        self.assertEqual(told(("not", A), [""]).said(), "yes")
        self.assertEqual(told(UNTIL, ["a", ""]).row(), ["a", ""])
