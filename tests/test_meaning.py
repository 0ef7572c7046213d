import unittest

from soonsaid.meaning import holds
from tests.samples import A, B, YES, built_on, large_statements, nested, runs, small_statements

UNTIL = ("until", A, B)
SINCE = ("since", A, B)


def by_the_words(statement, run, at):
    """Whether it holds there, moment by moment, just as the document words it."""
    word, parts = statement[0], statement[1:]
    moments = range(len(run))
    if word == "mark":
        return run[at] == parts[0]
    if word == "yes":
        return True
    if word == "not":
        return not by_the_words(parts[0], run, at)
    if word == "and":
        return by_the_words(parts[0], run, at) and by_the_words(parts[1], run, at)
    if word == "or":
        return by_the_words(parts[0], run, at) or by_the_words(parts[1], run, at)
    if word == "next":
        return at + 1 in moments and by_the_words(parts[0], run, at + 1)
    if word == "before":
        return at - 1 in moments and by_the_words(parts[0], run, at - 1)
    if word == "within":
        return any(by_the_words(parts[1], run, n) for n in moments if at <= n <= at + parts[0])
    if word == "until":
        return any(by_the_words(parts[1], run, there) and all(by_the_words(parts[0], run, n) for n in range(at, there))
                   for there in range(at, len(run)))
    return any(by_the_words(parts[1], run, there) and all(by_the_words(parts[0], run, n)
                                                          for n in range(there + 1, at + 1))
               for there in range(at + 1))


class Holds(unittest.TestCase):
    def rows(self, statement, run, wanted):
        """Checks where it holds: wanted has a figure 1 or 0 for each moment."""
        told = [holds(statement, run, at) for at in range(len(run))]
        self.assertEqual(told, [figure == "1" for figure in wanted])
        self.assertTrue(all(type(here) is bool for here in told))

    def test_mark_and_yes(self):
        self.rows(A, ["a", "", "b", "ab", "a"], "10001")
        self.rows(("mark", "abcdef"), ["a", "abcdef", ""], "010")
        self.rows(YES, ["a", "", "b"], "111")

    def test_not_and_or(self):
        run = ["a", "b", ""]
        self.rows(("not", A), run, "011")
        self.rows(("not", YES), run, "000")
        self.rows(("and", A, YES), run, "100")
        self.rows(("and", YES, B), run, "010")
        self.rows(("and", A, B), run, "000")
        self.rows(("or", A, B), run, "110")
        self.rows(("or", A, A), run, "100")

    def test_next(self):
        self.rows(("next", A), ["a", "a", "b", "a"], "1010")
        self.rows(("next", YES), ["", "", ""], "110")
        self.rows(("not", ("next", YES)), ["", "", ""], "001")
        self.rows(("next", ("not", A)), ["a"], "0")

    def test_before(self):
        self.rows(("before", A), ["a", "a", "b", "a"], "0110")
        self.rows(("before", YES), ["", "", ""], "011")
        self.rows(("before", ("not", A)), ["b"], "0")

    def test_until(self):
        self.rows(UNTIL, ["a", "a", "b", "a"], "1110")
        self.rows(UNTIL, ["a", "", "b"], "001")
        self.rows(UNTIL, ["a", "a", "a"], "000")
        self.rows(("until", YES, B), ["", "b", "", "b", ""], "11110")

    def test_until_at_once(self):
        self.rows(UNTIL, ["b"], "1")
        self.rows(UNTIL, ["b", "a"], "10")
        self.rows(("until", ("not", YES), B), ["", "b", "b", ""], "0110")
        self.rows(("until", ("not", B), B), ["", "b", ""], "110")

    def test_since(self):
        self.rows(SINCE, ["a", "b", "a", "a"], "0111")
        self.rows(SINCE, ["b", "", "a"], "100")
        self.rows(SINCE, ["a", "a", "a"], "000")
        self.rows(("since", YES, B), ["", "b", "", "b", ""], "01111")

    def test_since_at_once(self):
        self.rows(SINCE, ["b"], "1")
        self.rows(SINCE, ["a", "b"], "01")
        self.rows(("since", ("not", YES), B), ["", "b", "b", ""], "0110")
        self.rows(("since", ("not", B), B), ["", "b", ""], "011")

    def test_within(self):
        run = ["", "", "", "", "", "a", "", ""]
        self.rows(("within", 0, A), run, "00000100")
        self.rows(("within", 1, A), run, "00001100")
        self.rows(("within", 3, A), run, "00111100")
        self.rows(("within", 4, A), run, "01111100")

    def test_within_that_goes_past_the_end(self):
        self.rows(("within", 4, A), ["a"], "1")
        self.rows(("within", 4, A), [""], "0")
        self.rows(("within", 4, A), ["", "a"], "11")
        self.rows(("within", 4, ("not", A)), ["", "a"], "10")
        self.rows(("not", ("within", 2, A)), ["", "", "", ""], "1111")

    def test_mixed_ones(self):
        self.rows(("before", ("next", A)), ["", "a", ""], "010")
        self.rows(("since", ("next", YES), A), ["a", "", ""], "110")
        self.rows(("before", ("within", 2, A)), ["", "", "a", ""], "0111")
        self.rows(("until", ("before", UNTIL), ("since", ("next", B), A)), ["a", "a", "b", ""], "1100")

    def test_other_marks_than_the_named(self):
        self.rows(("or", A, ("not", B)), ["zzz", "b", "", "a"], "1011")

    def test_small_ones_by_the_words(self):
        for statement in small_statements():
            for run in runs(4):
                for at in range(len(run)):
                    self.assertIs(holds(statement, run, at), by_the_words(statement, run, at), (statement, run, at))

    def test_deeper_ones_by_the_words(self):
        statements = built_on(small_statements()[3:])[::29] + large_statements(150, 5)
        for statement in statements:
            for run in runs(6)[::17]:
                for at in range(len(run)):
                    self.assertIs(holds(statement, run, at), by_the_words(statement, run, at), (statement, run, at))

    def test_six_within_one_another(self):
        self.rows(nested(6), ["a", "b"], "01")
        self.rows(nested(6, "next"), [""] * 5 + ["a", ""], "1000000")
        self.rows(nested(6, "before"), ["a"] + [""] * 6, "0000010")

    def test_a_long_run(self):
        deep = B
        for _ in range(5):
            deep = ("until", ("since", A, A), deep) if deep == B else ("until", A, deep)
        run = ["a"] * 20000 + ["b"]
        self.assertIs(holds(deep, run, 0), True)
        self.assertIs(holds(("since", ("not", B), B), ["b"] + ["a"] * 20000, 20000), True)
        self.assertIs(holds(deep, run[:-1], 0), False)

    def test_the_run_stays_as_it_was(self):
        run = ["a", "", "b"]
        for statement in small_statements():
            for at in range(3):
                holds(statement, run, at)
        self.assertEqual(run, ["a", "", "b"])

    def test_nothing_is_kept(self):
        run = ["a", "a", "b"]
        self.assertIs(holds(UNTIL, run, 0), True)
        run[2] = "a"
        self.assertIs(holds(UNTIL, run, 0), False)
        run.append("b")
        self.assertIs(holds(UNTIL, run, 0), True)
