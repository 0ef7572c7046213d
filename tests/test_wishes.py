import unittest

from soonsaid.meaning import holds
from soonsaid.statements import is_mixed, wishes_in
from tests.samples import A, B, YES, large_statements, nested, runs, small_statements

UNTIL = ("until", A, B)


class Wishes(unittest.TestCase):
    def wishes(self, statement, *others):
        """Checks that its wishes are itself, first, and just these."""
        told = wishes_in(statement)
        self.assertIsInstance(told, list)
        self.assertEqual(told[0], statement)
        self.assertCountEqual(told[1:], others)

    def test_what_does_not_look_ahead(self):
        for statement in [A, YES, ("not", A), ("and", A, B), ("or", YES, ("before", A)), ("since", A, ("before", B))]:
            self.wishes(statement)

    def test_next(self):
        self.wishes(("next", A), A)
        self.wishes(("next", ("next", A)), ("next", A), A)
        self.wishes(("next", ("not", B)), ("not", B))
        self.wishes(("next", ("since", A, B)), ("since", A, B))
        self.wishes(("next", UNTIL), UNTIL)

    def test_until(self):
        self.wishes(UNTIL)
        self.wishes(("until", ("next", A), B), A)
        self.wishes(("until", A, ("next", B)), B)
        self.wishes(("until", UNTIL, ("until", YES, A)), UNTIL, ("until", YES, A))

    def test_within(self):
        self.wishes(("within", 0, A))
        self.wishes(("within", 1, A), ("within", 0, A))
        self.wishes(("within", 4, A), *[("within", k, A) for k in range(4)])
        self.wishes(("within", 0, ("next", A)), A)
        self.wishes(("within", 1, ("next", A)), ("within", 0, ("next", A)), A)
        self.wishes(("within", 1, UNTIL), ("within", 0, UNTIL), UNTIL)

    def test_parts(self):
        for word in ["and", "or"]:
            self.wishes((word, UNTIL, ("next", B)), UNTIL, B)
        self.wishes(("not", ("within", 2, A)), ("within", 1, A), ("within", 0, A))
        self.wishes(("until", A, ("within", 2, ("not", B))), ("within", 1, ("not", B)), ("within", 0, ("not", B)))

    def test_a_past_hangs_on_nothing(self):
        self.wishes(("before", ("before", A)))
        self.wishes(("and", ("since", A, B), ("next", ("before", A))), ("before", A))

    def test_each_once(self):
        self.wishes(("and", UNTIL, UNTIL), UNTIL)
        self.wishes(("and", UNTIL, ("next", UNTIL)), UNTIL)
        self.wishes(("or", ("next", A), ("next", A)), A)
        self.wishes(("or", ("within", 2, A), ("within", 1, A)), ("within", 1, A), ("within", 0, A))

    def test_six_and_seven(self):
        self.assertEqual(len(wishes_in(("next", ("within", 4, A)))), 6)
        self.assertEqual(len(wishes_in(("next", ("next", ("within", 4, A))))), 7)
        self.assertEqual(len(wishes_in(nested(6, "next"))), 6)
        self.assertEqual(len(wishes_in(("and", nested(5, "next"), ("next", B)))), 6)
        self.assertEqual(len(wishes_in(("and", nested(5, "next"), UNTIL))), 6)

    def test_each_once_in_many(self):
        for statement in large_statements(300, 6):
            if not is_mixed(statement):
                told = wishes_in(statement)
                self.assertEqual(told[0], statement)
                self.assertEqual(len(told), len(set(told)), statement)

    def test_they_and_the_marks_decide(self):
        """Behind the same marks, with the same wishes held at the next moment (none at the end), the same holds."""
        statements = small_statements()[::3] + large_statements(120, 4)
        for statement in statements:
            if is_mixed(statement):
                continue
            wishes = wishes_in(statement)
            seen = {}
            for run in runs(4):
                rows = [[holds(wish, run, at) for wish in wishes] for at in range(len(run))]
                rows.append([False] * len(wishes))
                for at in range(len(run)):
                    key = (tuple(run[:at + 1]), tuple(rows[at + 1]))
                    self.assertEqual(seen.setdefault(key, rows[at]), rows[at], (statement, run, at))

    def test_a_new_list_each_time(self):
        told = wishes_in(UNTIL)
        told.append("more")
        self.assertEqual(wishes_in(UNTIL), [UNTIL])
