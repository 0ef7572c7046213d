"""That what is told is the asker's own, and that nothing that is handed in is changed or kept as it is."""

import copy
import unittest

from soonsaid.goings import going, reached, verdict
from soonsaid.meaning import holds
from soonsaid.notes import read, written
from soonsaid.plans import Plan, begun, is_met, stepped
from soonsaid.statements import (is_mixed, is_statement, looks_ahead, marks_in, need_told, pasts_in, wishes_in)
from soonsaid.tellers import Teller
from tests.samples import A, B, YES, behind, large_told, runs

UNTIL = ("until", A, B)
BOTH = ("until", ("not", ("before", A)), ("and", ("since", A, B), ("within", 1, B)))
SIX = ("next", ("within", 4, A))


def spoil(told):
    """Changes a list that was told in several ways."""
    told.append("more")
    told[0] = "other"
    told.reverse()
    del told[1:]


class Told(unittest.TestCase):
    def test_a_new_list_each_time(self):
        plan = Plan(BOTH)
        state = behind(plan, [""])
        asks = [lambda: wishes_in(BOTH), lambda: pasts_in(BOTH), lambda: marks_in(BOTH), lambda: reached(plan, state),
                lambda: going(plan, state, True), lambda: going(plan, state, False)]
        for at, ask in enumerate(asks):
            one, other = ask(), ask()
            self.assertEqual(one, other, at)
            self.assertIsNot(one, other, at)
            right = copy.deepcopy(one)
            spoil(one)
            self.assertEqual(other, right, at)
            self.assertEqual(ask(), right, at)

    def test_what_is_told_stays_when_more_is_asked(self):
        plan = Plan(BOTH)
        state = behind(plan, [""])
        told = [reached(plan, state), going(plan, state, True), going(plan, state, False), state]
        right = copy.deepcopy(told)
        for run in runs(3):
            later = behind(plan, run)
            verdict(plan, later)
            reached(plan, later)
            going(plan, later, True)
        self.assertEqual(told, right)

    def test_the_row_of_a_teller(self):
        teller = Teller(UNTIL)
        empty = teller.row()
        empty.append("a")
        self.assertEqual(teller.row(), [])
        with self.assertRaises(ValueError):
            teller.end()
        teller.tell("a")
        row = teller.row()
        teller.tell("c")
        self.assertEqual(row, ["a"])
        spoil(row)
        self.assertEqual(teller.row(), ["a", "c"])
        self.assertIsNot(teller.row(), teller.row())

    def test_the_ways_of_a_teller(self):
        for statement, mark in [(UNTIL, "a"), (("not", UNTIL), "a"), (SIX, ""), (("not", SIX), "a")]:
            teller = Teller(statement)
            teller.tell(mark)
            ways = teller.ways()
            right = copy.deepcopy(ways)
            for way in ways:
                way.append("more")
            self.assertEqual(teller.ways(), right)
            ways = teller.ways()
            teller.tell(mark)
            teller.ways()
            self.assertEqual(ways, right)

    def test_what_is_done_to_it_changes_nothing_that_is_said(self):
        for statement in [UNTIL, BOTH, SIX, ("next", ("since", A, B))]:
            for run in runs(3):
                plain, teller = Teller(statement), Teller(statement)
                for mark in run:
                    teller.tell(mark)
                    teller.row().clear()
                    for way in teller.ways() or ():
                        way.append("b")
                    self.assertEqual(plain.tell(mark), teller.said())
                self.assertEqual((plain.row(), plain.end(), plain.ways()), (teller.row(), teller.end(), teller.ways()))


class HandedIn(unittest.TestCase):
    def test_a_run_stays_as_it_was_and_is_not_kept(self):
        run = ["a", "", "b"]
        for statement in [UNTIL, BOTH, YES, SIX]:
            holds(statement, run, 0)
        self.assertEqual(run, ["a", "", "b"])
        self.assertIs(holds(("within", 2, B), run, 0), True)
        run[2] = ""
        self.assertIs(holds(("within", 2, B), run, 0), False)

    def test_a_state_stays_as_it_was(self):
        for statement in [UNTIL, BOTH, SIX]:
            plan = Plan(statement)
            for run in runs(2):
                state = behind(plan, run)
                right = copy.deepcopy(state)
                stepped(plan, state, "a")
                is_met(state)
                reached(plan, state)
                verdict(plan, state)
                going(plan, state, True)
                going(plan, state, False)
                self.assertEqual(state, right)

    def test_a_plan_is_only_read(self):
        for statement in [UNTIL, BOTH, SIX, A] + large_told(40, 6):
            plan = Plan(statement)
            right = copy.deepcopy(vars(plan))
            for run in runs(2)[::2]:
                state = behind(plan, run)
                spoil(reached(plan, state))
                verdict(plan, state)
                for wanted in [True, False]:
                    row = going(plan, state, wanted)
                    if row is not None:
                        row.append("more")
                stepped(plan, begun(plan), "zz")
            self.assertEqual(vars(plan), right)

    def test_plans_share_nothing(self):
        one, other = Plan(BOTH), Plan(BOTH)
        for name in ["wishes", "pasts", "marks", "weights"]:
            self.assertIsNot(getattr(one, name), getattr(other, name))
            spoil(getattr(one, name))
            self.assertEqual(getattr(Plan(BOTH), name), getattr(other, name))

    def test_what_cannot_be_read_or_told_stays_as_it_was(self):
        inner = ["mark", "a"]
        thing = ["not", inner]
        for given in [thing, ("not", inner), inner, {"a": inner}]:
            for ask in [Teller, need_told, read, Teller(UNTIL).tell]:
                with self.assertRaises(ValueError):
                    ask(given)
            is_statement(given)
        self.assertEqual((inner, thing), (["mark", "a"], ["not", ["mark", "a"]]))

    def test_a_statement_is_told_the_same_again(self):
        right = copy.deepcopy(BOTH)
        for ask in [wishes_in, pasts_in, marks_in, looks_ahead, is_mixed, need_told, written]:
            self.assertEqual(ask(BOTH), ask(BOTH))
        self.assertEqual(BOTH, right)


class TwoTellers(unittest.TestCase):
    def alone(self, statement, run):
        """All that a teller says that is told the run without another one beside it."""
        teller = Teller(statement)
        return [(teller.tell(mark), teller.said(), teller.row(), teller.end(), teller.ways()) for mark in run]

    def by_turns(self, first, second):
        """Checks two tellers that are told marks by turns, each a pair of a statement and a run."""
        one, other = Teller(first[0]), Teller(second[0])
        found = ([], [])
        for mark, beside in zip(first[1], second[1], strict=True):
            for teller, sign, words in [(one, mark, found[0]), (other, beside, found[1])]:
                words.append((teller.tell(sign), teller.said(), teller.row(), teller.end(), teller.ways()))
        self.assertEqual(found, (self.alone(*first), self.alone(*second)))

    def test_of_one_statement(self):
        for statement in [UNTIL, BOTH, SIX, ("next", ("since", A, B))]:
            for run in runs(3)[12::2]:
                self.by_turns((statement, run), (statement, ["b", "", "a"]))

    def test_of_two_statements(self):
        for run in runs(3)[12::2]:
            self.by_turns((UNTIL, run), (("since", A, B), run))
            self.by_turns((BOTH, run), (("not", BOTH), run))
            self.by_turns((SIX, run), (("within", 2, A), ["", "", "b"]))

    def test_one_that_is_refused_a_mark(self):
        one, other = Teller(UNTIL), Teller(UNTIL)
        one.tell("a")
        with self.assertRaises(ValueError):
            one.tell("A")
        with self.assertRaises(ValueError):
            other.ways()
        self.assertEqual((one.row(), other.row()), (["a"], []))
        self.assertEqual((other.tell("b"), one.said()), ("yes", "open"))
