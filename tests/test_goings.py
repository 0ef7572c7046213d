import itertools
import unittest

from soonsaid.goings import going, reached, verdict
from soonsaid.meaning import holds
from soonsaid.plans import Plan, begun, is_met, stepped
from tests.samples import A, B, YES, behind, large_told, runs, small_told

UNTIL = ("until", A, B)
SINCE = ("since", A, B)
BEFORE = ("before", A)
NEVER = ("not", YES)
SIX = ("next", ("within", 4, A))


def all_behind(plan, start):
    """All states that can come behind it, itself too."""
    found = {start}
    edge = {start}
    while edge:
        edge = {stepped(plan, state, mark) for state in edge for mark in plan.marks + ["zzz"]} - found
        found |= edge
    return found


def rows_of(marks, longest):
    """All rows of at most so many of the marks, the shorter first and those of one length as Python orders lists."""
    for length in range(longest + 1):
        for row in sorted(list(row) for row in itertools.product(marks, repeat=length)):
            yield row


class Reached(unittest.TestCase):
    def test_a_mark(self):
        plan = Plan(A)
        start = begun(plan)
        told = reached(plan, start)
        self.assertIs(type(told), list)
        self.assertEqual(told[0], start)
        self.assertCountEqual(told[1:], [((), (True, True)), ((), (False, False))])

    def test_one_that_leads_on_to_itself_only(self):
        plan = Plan(A)
        for state in [((), (True, True)), ((), (False, False))]:
            self.assertEqual(reached(plan, state), [state])

    def test_what_is_kept_makes_states_of_its_own(self):
        plan = Plan(BEFORE)
        told = reached(plan, ((False,), (False, False)))
        self.assertEqual(told, [((False,), (False, False)), ((True,), (False, False))])
        told = reached(plan, ((True,), (False, False)))
        self.assertEqual(told, [((True,), (False, False)), ((False,), (False, False))])

    def test_a_state_that_does_not_come_again(self):
        plan = Plan(("next", A))
        self.assertEqual(len(reached(plan, begun(plan))), 4)
        self.assertEqual(len(reached(plan, behind(plan, [""]))), 3)
        self.assertEqual(len(reached(plan, behind(plan, ["", ""]))), 1)

    def test_each_once_and_no_other(self):
        for statement in small_told()[::2] + large_told(120, 6) + [SIX]:
            plan = Plan(statement)
            for run in [[], ["a"], ["b", ""]]:
                start = behind(plan, run)
                told = reached(plan, start)
                self.assertEqual(told[0], start)
                self.assertEqual(len(told), len(set(told)), statement)
                self.assertEqual(set(told), all_behind(plan, start), (statement, run))

    def test_a_new_list_each_time(self):
        plan = Plan(UNTIL)
        start = begun(plan)
        told = reached(plan, start)
        right = list(told)
        told.clear()
        self.assertEqual(reached(plan, start), right)


class Verdict(unittest.TestCase):
    def test_by_all_none_or_some(self):
        plan = Plan(UNTIL)
        self.assertEqual(verdict(plan, behind(plan, ["a"])), "open")
        self.assertEqual(verdict(plan, behind(plan, ["b"])), "yes")
        self.assertEqual(verdict(plan, behind(plan, ["", "b"])), "no")

    def test_ahead_of_the_first_mark(self):
        """There the state isn't met, so it is "no" where none is behind it, and never "yes"."""
        for statement, wanted in [(YES, "open"), (A, "open"), (UNTIL, "open"), (SIX, "open"), (NEVER, "no"),
                                  (BEFORE, "no"), (("and", A, B), "no")]:
            plan = Plan(statement)
            self.assertEqual(verdict(plan, begun(plan)), wanted, statement)

    def test_the_state_itself_counts(self):
        plan = Plan(("not", ("next", YES)))
        self.assertEqual(verdict(plan, behind(plan, ["a"])), "open")
        self.assertEqual(verdict(plan, behind(plan, ["a", "a"])), "no")
        plan = Plan(("next", YES))
        self.assertEqual(verdict(plan, behind(plan, ["a"])), "open")
        self.assertEqual(verdict(plan, behind(plan, ["a", "a"])), "yes")

    def test_far_ahead(self):
        plan = Plan(("within", 4, ("and", B, ("before", ("before", ("before", ("before", A)))))))
        self.assertEqual(verdict(plan, behind(plan, ["a", "", "", ""])), "open")
        self.assertEqual(verdict(plan, behind(plan, ["", "", "", ""])), "no")
        self.assertEqual(verdict(plan, behind(plan, ["a", "", "", "", "b"])), "yes")

    def test_no_though_the_places_differ(self):
        plan = Plan(("until", YES, ("and", A, B)))
        state = behind(plan, ["a", "b"])
        self.assertEqual(state, ((), (False, True)))
        self.assertEqual(verdict(plan, state), "no")
        plan = Plan(("not", ("until", YES, ("and", A, B))))
        self.assertEqual(verdict(plan, behind(plan, ["a", "b"])), "yes")

    def test_by_the_states(self):
        for statement in small_told() + large_told(150, 6):
            plan = Plan(statement)
            for run in [[]] + runs(2):
                state = behind(plan, run)
                met = {is_met(later) for later in all_behind(plan, state)}
                wanted = "open" if len(met) == 2 else "yes" if True in met else "no"
                self.assertEqual(verdict(plan, state), wanted, (statement, run))


class Going(unittest.TestCase):
    def test_to_one_that_is_met_and_to_one_that_is_not(self):
        plan = Plan(UNTIL)
        self.assertEqual(going(plan, begun(plan), True), ["b"])
        self.assertEqual(going(plan, begun(plan), False), [])
        state = behind(plan, ["a"])
        self.assertEqual(going(plan, state, True), ["b"])
        self.assertEqual(going(plan, state, False), [])

    def test_an_empty_row(self):
        plan = Plan(("not", UNTIL))
        self.assertEqual(going(plan, behind(plan, ["a"]), True), [])
        self.assertEqual(going(plan, behind(plan, ["b"]), False), [])
        self.assertEqual(going(plan, behind(plan, [""]), True), [])

    def test_none_without_any(self):
        plan = Plan(UNTIL)
        self.assertIs(going(plan, behind(plan, ["b"]), False), None)
        self.assertIs(going(plan, behind(plan, [""]), True), None)
        self.assertIs(going(Plan(NEVER), begun(Plan(NEVER)), True), None)
        plan = Plan(("until", YES, ("and", A, B)))
        self.assertIs(going(plan, behind(plan, ["a"]), True), None)

    def test_the_first_of_the_shortest(self):
        plan = Plan(("or", ("next", ("next", B)), ("next", ("next", ("mark", "ab")))))
        self.assertEqual(going(plan, behind(plan, ["b"]), True), ["", "ab"])
        plan = Plan(("next", ("or", ("mark", "b"), ("or", ("mark", "ba"), ("mark", "aaa")))))
        self.assertEqual(going(plan, behind(plan, [""]), True), ["aaa"])

    def test_the_shorter_one_though_a_longer_one_is_ahead_of_it(self):
        plan = Plan(("until", ("not", ("mark", "z")), ("or", B, ("and", A, BEFORE))))
        self.assertEqual(going(plan, behind(plan, [""]), True), ["b"])

    def test_against_all_rows(self):
        for statement in small_told() + large_told(100, 6) + [SIX]:
            plan = Plan(statement)
            for run in [[], ["a"], ["b"], ["", "a"]]:
                state = behind(plan, run)
                for wanted in [True, False]:
                    told = going(plan, state, wanted)
                    found = next((row for row in rows_of(plan.marks, 5)
                                  if is_met(behind(plan, run + row)) is wanted), None)
                    self.assertEqual(told, found, (statement, run, wanted))
                    if told is not None:
                        self.assertIs(type(told), list)

    def test_a_new_list_each_time(self):
        plan = Plan(UNTIL)
        for state, wanted, row in [(behind(plan, ["a"]), True, ["b"]), (behind(plan, ["a"]), False, [])]:
            told = going(plan, state, wanted)
            told.append("more")
            self.assertEqual(going(plan, state, wanted), row)


class ManyStates(unittest.TestCase):
    def test_all_that_is_kept(self):
        """Eight sinces that are kept each by itself: 256 states, and the way to all of them is eight marks long."""
        marks = [("mark", letter) for letter in "abcdefgh"]
        parts = [("since", YES, mark) for mark in marks]
        while len(parts) > 1:
            parts = [("and", parts[at], parts[at + 1]) for at in range(0, len(parts), 2)]
        plan = Plan(("until", YES, parts[0]))
        start = behind(plan, [""])
        told = reached(plan, start)
        self.assertEqual(len(told), len(set(told)))
        self.assertEqual(len(told), 256)
        self.assertEqual(verdict(plan, start), "open")
        self.assertEqual(going(plan, start, True), list("abcdefgh"))
        self.assertEqual(going(plan, behind(plan, ["c", "h"]), True), list("abdefg"))
        self.assertEqual(going(plan, start, False), [])
        self.assertIs(holds(plan.wishes[0], [""] + list("abcdefgh"), 0), True)
