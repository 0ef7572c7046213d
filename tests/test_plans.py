import itertools
import unittest

from soonsaid.meaning import holds
from soonsaid.plans import Plan, begun, is_met, stepped
from soonsaid.statements import marks_in, need_told, pasts_in, wishes_in
from tests.samples import A, B, YES, behind, large_told, nested, runs, small_told

UNTIL = ("until", A, B)
SINCE = ("since", A, B)
BEFORE = ("before", A)
SIX = ("next", ("within", 4, A))


def held_here(statement, run, at, held):
    """Whether it holds there, if just the statements in held hold at the moment behind the run's last one.

    Moment by moment, by what it hangs on as the document words it.
    """
    word, parts = statement[0], statement[1:]

    def later(other):
        return held_here(other, run, at + 1, held) if at + 1 < len(run) else other in held

    def here(other):
        return held_here(other, run, at, held)

    if word in ("mark", "yes", "before", "since"):
        return holds(statement, run, at)
    if word == "not":
        return not here(parts[0])
    if word == "and":
        return here(parts[0]) and here(parts[1])
    if word == "or":
        return here(parts[0]) or here(parts[1])
    if word == "next":
        return later(parts[0])
    if word == "until":
        return here(parts[1]) or (here(parts[0]) and later(statement))
    return here(parts[1]) or (parts[0] > 0 and later(("within", parts[0] - 1, parts[1])))


def table_by_the_words(plan, run):
    table = []
    for place in range(2 ** len(plan.wishes)):
        held = [wish for at, wish in enumerate(plan.wishes) if place // 2 ** at % 2]
        table.append(held_here(plan.wishes[0], run, 0, held))
    return tuple(table)


def kept_by_the_words(plan, run):
    last = len(run) - 1
    return tuple(holds(past[1] if past[0] == "before" else past, run, last) for past in plan.pasts)


class Plans(unittest.TestCase):
    def test_wishes_pasts_and_marks(self):
        for statement in small_told() + large_told(200, 6):
            plan = Plan(statement)
            self.assertEqual(plan.wishes, wishes_in(statement))
            self.assertEqual(plan.pasts, pasts_in(statement))
            self.assertEqual(plan.marks, marks_in(statement))
            self.assertEqual(plan.wishes[0], statement)
            for field in [plan.wishes, plan.pasts, plan.marks, plan.weights]:
                self.assertIs(type(field), list)

    def test_weights(self):
        self.assertEqual(Plan(A).weights, [1, 2])
        self.assertEqual(Plan(("next", A)).weights, [1, 2, 4])
        self.assertEqual(Plan(("within", 2, A)).weights, [1, 2, 4, 8])
        self.assertEqual(Plan(SIX).weights, [1, 2, 4, 8, 16, 32, 64])
        self.assertEqual(Plan(("and", UNTIL, SINCE)).weights, [1, 2, 4])

    def test_more_wishes_than_can_be_told(self):
        plan = Plan(("next", SIX))
        self.assertEqual(plan.weights, [1, 2, 4, 8, 16, 32, 64, 128])
        state = behind(plan, ["", "", "", "a"])
        self.assertEqual(state, ((), table_by_the_words(plan, ["", "", "", "a"])))

    def test_plans_of_one_statement_do_the_same(self):
        one, other = Plan(UNTIL), Plan(UNTIL)
        self.assertEqual(stepped(one, begun(other), "a"), stepped(other, begun(one), "a"))


class Begun(unittest.TestCase):
    def test_nothing_was_before_and_just_the_first_wish_counts(self):
        self.assertEqual(begun(Plan(A)), ((), (False, True)))
        self.assertEqual(begun(Plan(YES)), ((), (False, True)))
        self.assertEqual(begun(Plan(("not", YES))), ((), (False, True)))
        self.assertEqual(begun(Plan(("next", A))), ((), (False, True, False, True)))
        self.assertEqual(begun(Plan(BEFORE)), ((False,), (False, True)))
        self.assertEqual(begun(Plan(("since", BEFORE, ("not", BEFORE)))), ((False, False), (False, True)))
        self.assertEqual(begun(Plan(SIX)), ((), (False, True) * 32))

    def test_it_is_not_met(self):
        for statement in [A, YES, ("not", A), ("not", ("next", YES)), SIX, BEFORE]:
            self.assertIs(is_met(begun(Plan(statement))), False)


class Stepped(unittest.TestCase):
    def test_a_mark(self):
        plan = Plan(A)
        self.assertEqual(stepped(plan, begun(plan), "a"), ((), (True, True)))
        self.assertEqual(stepped(plan, begun(plan), "b"), ((), (False, False)))
        self.assertEqual(stepped(plan, ((), (True, True)), "b"), ((), (True, True)))

    def test_next(self):
        plan = Plan(("next", B))
        self.assertEqual(plan.wishes, [("next", B), B])
        state = stepped(plan, begun(plan), "a")
        self.assertEqual(state, ((), (False, False, True, True)))
        self.assertEqual(stepped(plan, state, "b"), ((), (True,) * 4))
        self.assertEqual(stepped(plan, state, "a"), ((), (False,) * 4))

    def test_until(self):
        plan = Plan(UNTIL)
        self.assertEqual(behind(plan, ["a"]), ((), (False, True)))
        self.assertEqual(behind(plan, ["a", "a"]), ((), (False, True)))
        self.assertEqual(behind(plan, ["b"]), ((), (True, True)))
        self.assertEqual(behind(plan, ["a", "b"]), ((), (True, True)))
        self.assertEqual(behind(plan, [""]), ((), (False, False)))
        self.assertEqual(behind(plan, ["a", "", "b"]), ((), (False, False)))

    def test_within(self):
        plan = Plan(("within", 0, A))
        self.assertEqual(behind(plan, ["a"]), ((), (True, True)))
        self.assertEqual(behind(plan, [""]), ((), (False, False)))
        plan = Plan(("within", 1, A))
        self.assertEqual(behind(plan, ["a"]), ((), (True,) * 4))
        self.assertEqual(behind(plan, [""]), ((), (False, False, True, True)))
        self.assertEqual(behind(plan, ["", "a"]), ((), (True,) * 4))
        self.assertEqual(behind(plan, ["", "", "a"]), ((), (False,) * 4))

    def test_before(self):
        plan = Plan(("next", BEFORE))
        self.assertEqual(plan.wishes, [("next", BEFORE), BEFORE])
        self.assertEqual(behind(plan, ["a"]), ((True,), (False, False, True, True)))
        self.assertEqual(behind(plan, ["a", "b"]), ((False,), (True,) * 4))
        self.assertEqual(behind(plan, ["b", "a"]), ((True,), (False,) * 4))

    def test_a_before_of_a_before(self):
        plan = Plan(("before", BEFORE))
        self.assertEqual(plan.pasts, [BEFORE, ("before", BEFORE)])
        kept = [behind(plan, run)[0] for run in (["a"], ["a", ""], ["a", "", ""], ["a", "a"])]
        self.assertEqual(kept, [(True, False), (False, True), (False, False), (True, True)])

    def test_since(self):
        plan = Plan(SINCE)
        self.assertEqual(behind(plan, ["b"]), ((True,), (True, True)))
        self.assertEqual(behind(plan, ["b", "a"]), ((True,), (True, True)))
        self.assertEqual(behind(plan, ["b", ""]), ((False,), (True, True)))
        self.assertEqual(behind(plan, ["a"]), ((False,), (False, False)))
        self.assertEqual(behind(plan, ["a", "b"]), ((True,), (False, False)))

    def test_an_until_and_a_since_of_the_same_parts(self):
        plan = Plan(("and", UNTIL, SINCE))
        self.assertEqual(plan.pasts, [SINCE])
        self.assertEqual(plan.wishes, [("and", UNTIL, SINCE), UNTIL])
        self.assertEqual(behind(plan, ["a"]), ((False,), (False, False, False, False)))
        self.assertEqual(behind(plan, ["b"]), ((True,), (True, True, True, True)))
        plan = Plan(("or", SINCE, UNTIL))
        self.assertEqual(behind(plan, ["a"]), ((False,), (False, False, True, True)))
        self.assertEqual(behind(plan, ["a", "b", "a"]), ((True,), (True, True, True, True)))

    def test_the_same_before_twice(self):
        plan = Plan(("until", ("not", BEFORE), ("and", B, BEFORE)))
        self.assertEqual(plan.pasts, [BEFORE])
        self.assertEqual(behind(plan, ["a"]), ((True,), (False, True)))
        self.assertEqual(behind(plan, ["a", "b"]), ((False,), (True, True)))
        self.assertEqual(behind(plan, ["a", ""]), ((False,), (False, False)))

    def test_a_mark_that_is_not_named_leads_where_the_empty_one_leads(self):
        for statement in small_told()[::5] + large_told(60, 5):
            plan = Plan(statement)
            for run in [[], ["a"], ["b", ""], ["a", "a", "b"]]:
                state = behind(plan, run)
                for mark in ["z", "ab", "abcdef", "yes"]:
                    self.assertEqual(stepped(plan, state, mark), stepped(plan, state, ""), (statement, run, mark))

    def test_what_is_kept_by_the_words(self):
        for statement in small_told() + large_told(150, 6):
            plan = Plan(statement)
            for run in runs(4)[::3]:
                self.assertEqual(behind(plan, run)[0], kept_by_the_words(plan, run), (statement, run))

    def test_the_table_by_the_words(self):
        for statement in small_told() + large_told(120, 5):
            plan = Plan(statement)
            for run in runs(4)[::7]:
                self.assertEqual(behind(plan, run)[1], table_by_the_words(plan, run), (statement, run))

    def test_the_table_of_six_wishes(self):
        for statement in [SIX, nested(6, "next"), ("and", ("within", 4, A), UNTIL), ("or", ("within", 4, B), UNTIL)]:
            self.assertEqual(need_told(statement), statement)
            plan = Plan(statement)
            for run in runs(3) + [["", "a", "a", "", "b", "a"], ["", "", "", "", "", "", "a"]]:
                self.assertEqual(behind(plan, run)[1], table_by_the_words(plan, run), (statement, run))

    def test_the_table_tells_of_each_way_to_go_on(self):
        statements = [UNTIL, ("within", 2, A), ("until", ("next", A), ("not", BEFORE)), ("next", ("or", SINCE, UNTIL)),
                      ("not", ("until", BEFORE, ("within", 1, B)))]
        for statement in statements:
            plan = Plan(statement)
            for run in runs(3):
                table = behind(plan, run)[1]
                for more in runs(2):
                    held = sum(weight for weight, wish in zip(plan.weights, plan.wishes)
                               if holds(wish, run + more, len(run)))
                    self.assertIs(table[held], holds(statement, run + more, 0), (statement, run, more))

    def test_kinds_of_values(self):
        for statement in small_told()[::7] + [SIX, ("and", SINCE, ("before", SINCE))]:
            plan = Plan(statement)
            for run in [[], ["a"], ["b", "a"]]:
                state = behind(plan, run)
                self.assertIs(type(state), tuple)
                kept, table = state
                self.assertEqual((type(kept), type(table)), (tuple, tuple))
                self.assertEqual((len(kept), len(table)), (len(plan.pasts), plan.weights[-1]))
                self.assertEqual({type(here) for here in kept + table}, {bool})
                self.assertIs(type(is_met(state)), bool)


class IsMet(unittest.TestCase):
    def test_what_stands_at_place_0(self):
        self.assertIs(is_met(((), (True, False))), True)
        self.assertIs(is_met(((), (False, True))), False)
        self.assertIs(is_met(((True, True), (False, True, True, True))), False)

    def test_it_is_whether_the_statement_holds_if_the_run_ends_there(self):
        for statement in small_told() + large_told(150, 6):
            plan = Plan(statement)
            for run in runs(4)[::3]:
                self.assertIs(is_met(behind(plan, run)), holds(statement, run, 0), (statement, run))

    def test_a_long_run(self):
        plan = Plan(("until", ("since", ("not", B), YES), ("and", B, ("before", A))))
        run = list(itertools.islice(itertools.cycle(["a", "", "a"]), 3000))
        self.assertIs(is_met(behind(plan, run + ["b"])), True)
        self.assertIs(is_met(behind(plan, run)), False)
