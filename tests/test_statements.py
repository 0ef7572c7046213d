import unittest

from soonsaid.errors import BadStatement, Mixed, TooMany
from soonsaid.statements import is_mark, is_mixed, is_statement, looks_ahead, marks_in, need_told, pasts_in
from tests.samples import (A, B, ONE_PART, TWO_PARTS, YES, Liar, Sour, Word, large_statements, nested, other_things,
                           small_statements)

UNTIL = ("until", A, B)


class IsMark(unittest.TestCase):
    def test_texts_of_small_letters(self):
        for text in ["a", "z", "ab", "zzzzz", "abcdef", "uvwxyz", "mnopqr", "ghijkl", "aaaaaa"]:
            self.assertIs(is_mark(text), True, text)

    def test_the_empty_mark(self):
        self.assertIs(is_mark(""), True)

    def test_six_letters_and_seven(self):
        self.assertIs(is_mark("a" * 6), True)
        self.assertIs(is_mark("a" * 7), False)
        self.assertIs(is_mark("a" * 1000), False)

    def test_each_small_letter_counts_and_no_other_sign(self):
        for code in range(0x300):
            self.assertIs(is_mark(chr(code)), 97 <= code <= 122, code)
            self.assertIs(is_mark("a" + chr(code) + "a"), 97 <= code <= 122, code)

    def test_other_texts(self):
        for text in ["A", "aB", " ", "a b", "a ", " a", "a\n", "\n", "1", "a1", "_", "'a'", "-", "\u00e9", "\u0430",
                     "\uff41", "\u00df", "\ud800", "\U0001d41a", "\0", "a\0"]:
            self.assertIs(is_mark(text), False, repr(text))

    def test_things_of_other_kinds(self):
        for thing in other_things() + [(), ("a",), A, YES, Word("a"), Word("")]:
            self.assertIs(is_mark(thing), False, type(thing))


class IsStatement(unittest.TestCase):
    def test_each_word(self):
        for statement in [A, YES, ("not", A), ("and", A, B), ("or", A, YES), ("next", A), UNTIL, ("within", 2, A),
                          ("before", A), ("since", A, B)]:
            self.assertIs(is_statement(statement), True, statement)

    def test_small_and_mixed_ones(self):
        for statement in small_statements() + large_statements(300, 6):
            self.assertIs(is_statement(statement), True, statement)

    def test_marks(self):
        for mark in ["a", "abcdef", "z"]:
            self.assertIs(is_statement(("mark", mark)), True, mark)
        for thing in ["", "abcdefg", "A", "a b", "a1", Word("a"), A, (), ("a",)] + other_things():
            self.assertIs(is_statement(("mark", thing)), False, type(thing))

    def test_how_many_parts(self):
        whole = {"mark": ("a",), "yes": (), "within": (2, A)}
        whole.update({word: (A,) for word in ONE_PART})
        whole.update({word: (A, B) for word in TWO_PARTS})
        for word, parts in whole.items():
            self.assertIs(is_statement((word,) + parts), True, word)
            for wrong in [parts[:-1], parts[1:], parts + (A,), parts + ("a",), (A,) + parts, parts + (None,), [parts]]:
                if wrong != parts:
                    self.assertIs(is_statement((word,) + tuple(wrong)), False, (word, wrong))

    def test_the_number_of_a_within(self):
        for k in range(5):
            self.assertIs(is_statement(("within", k, A)), True, k)
        for k in [-1, 5, 6, 10 ** 400, -10 ** 400, 2.0, 0.0, "2", b"2", None, A, (), [2], {}, True, False, 2j, Sour()]:
            self.assertIs(is_statement(("within", k, A)), False, type(k))
        self.assertIs(is_statement(("within", A, 2)), False)

    def test_words_that_are_none(self):
        for word in ["", "MARK", "Not", "yes ", "maybe", "nor", "always", b"yes", None, 0, True, (), ("yes",), ["yes"],
                     {}, Word("yes"), Liar(str), Sour(), "\ud800"]:
            for parts in [(), ("a",), (A,), (A, B), (2, A)]:
                self.assertIs(is_statement((word,) + parts), False, type(word))

    def test_things_of_other_kinds(self):
        for thing in other_things() + ["", "a", "yes", "mark", "yes()", (), ((),), (YES,), (A, B), list(A), list(UNTIL)]:
            self.assertIs(is_statement(thing), False, type(thing))

    def test_things_of_other_kinds_as_parts(self):
        for thing in other_things() + ["a", "", (), (A,), list(A), ("mark", ""), ("no",)]:
            for word in ONE_PART:
                self.assertIs(is_statement((word, thing)), False, (word, type(thing)))
            for word in TWO_PARTS:
                self.assertIs(is_statement((word, thing, A)), False, (word, type(thing)))
                self.assertIs(is_statement((word, A, thing)), False, (word, type(thing)))
            self.assertIs(is_statement(("within", 2, thing)), False, type(thing))
            self.assertIs(is_statement(("not", ("next", ("or", A, thing)))), False, type(thing))

    def test_six_and_seven_within_one_another(self):
        for word in ONE_PART:
            self.assertIs(is_statement(nested(6, word)), True, word)
            self.assertIs(is_statement(nested(7, word)), False, word)
        for word in TWO_PARTS:
            self.assertIs(is_statement((word, nested(5), A)), True, word)
            self.assertIs(is_statement((word, A, nested(5))), True, word)
            self.assertIs(is_statement((word, nested(5), nested(5))), True, word)
            self.assertIs(is_statement((word, nested(6), A)), False, word)
            self.assertIs(is_statement((word, A, nested(6))), False, word)
        self.assertIs(is_statement(("within", 4, nested(5))), True)
        self.assertIs(is_statement(("within", 4, nested(6))), False)
        self.assertIs(is_statement(("not", ("not", ("not", ("not", ("not", YES)))))), True)
        self.assertIs(is_statement(("not", ("not", ("not", ("not", ("not", ("not", YES))))))), False)

    def test_what_is_handed_in_stays_as_it_was(self):
        inner = ["mark", "a"]
        thing = ["not", inner]
        for given in [thing, ("not", inner), ("mark", inner), ("within", thing, A)]:
            is_statement(given)
            is_mark(given)
            with self.assertRaises(BadStatement):
                need_told(given)
        self.assertEqual(inner, ["mark", "a"])
        self.assertEqual(thing, ["not", ["mark", "a"]])

    def test_very_deep_and_very_wide_things(self):
        self.assertIs(is_statement(nested(100000)), False)
        wide = A
        for _ in range(200):
            wide = ("and", wide, wide)
        self.assertIs(is_statement(wide), False)
        self.assertIs(is_statement(("and",) + (A,) * 100000), False)


class LooksAhead(unittest.TestCase):
    def test_itself(self):
        for statement in [("next", A), UNTIL, ("within", 1, A), ("within", 4, A), ("within", 0, A)]:
            self.assertIs(looks_ahead(statement), True, statement)
        for statement in [A, YES, ("not", A), ("and", A, B), ("or", A, B), ("before", A), ("since", A, B)]:
            self.assertIs(looks_ahead(statement), False, statement)

    def test_somewhere_within(self):
        for inner in [("next", A), UNTIL, ("within", 0, A)]:
            for statement in [("not", inner), ("and", A, inner), ("or", inner, A), ("before", inner),
                              ("since", A, inner), ("since", inner, A), ("not", ("not", ("or", B, ("not", inner))))]:
                self.assertIs(looks_ahead(statement), True, statement)
        self.assertIs(looks_ahead(("not", ("and", ("since", A, ("before", B)), ("or", YES, A)))), False)


class IsMixed(unittest.TestCase):
    def test_a_past_that_looks_ahead(self):
        for inner in [("next", A), UNTIL, ("within", 0, A), ("not", ("next", A)), ("or", A, ("within", 2, B))]:
            for statement in [("before", inner), ("since", inner, A), ("since", A, inner)]:
                self.assertIs(is_mixed(statement), True, statement)
                for outer in [("not", statement), ("and", A, statement), ("next", statement), ("until", A, statement),
                              ("before", statement), ("within", 3, ("or", statement, A))]:
                    self.assertIs(is_mixed(outer), True, outer)

    def test_both_beside_one_another(self):
        for past in [("before", A), ("since", A, B), ("before", ("since", A, ("not", B)))]:
            for statement in [past, ("next", past), ("until", past, A), ("until", A, past), ("within", 2, past),
                              ("and", past, ("next", A)), ("or", UNTIL, past), ("next", ("not", past))]:
                self.assertIs(is_mixed(statement), False, statement)

    def test_without_a_past(self):
        for statement in [A, YES, ("not", A), UNTIL, ("next", ("within", 2, A))]:
            self.assertIs(is_mixed(statement), False, statement)


class PastsIn(unittest.TestCase):
    def test_itself_and_those_in_it(self):
        before = ("before", A)
        since = ("since", before, B)
        self.assertEqual(pasts_in(A), [])
        self.assertEqual(pasts_in(("until", YES, ("next", A))), [])
        self.assertEqual(pasts_in(before), [before])
        self.assertEqual(pasts_in(since), [before, since])
        self.assertEqual(pasts_in(("next", ("not", since))), [before, since])
        self.assertEqual(pasts_in(("within", 2, before)), [before])
        twice = ("before", before)
        self.assertEqual(pasts_in(twice), [before, twice])

    def test_each_once(self):
        before = ("before", A)
        since = ("since", before, before)
        self.assertEqual(pasts_in(("and", before, before)), [before])
        self.assertEqual(pasts_in(("or", since, ("not", before))), [before, since])
        both = pasts_in(("and", ("before", A), ("before", B)))
        self.assertCountEqual(both, [("before", A), ("before", B)])

    def test_one_that_stands_in_a_later_one_and_ahead_of_it(self):
        inner = ("before", A)
        outer = ("since", B, ("not", inner))
        self.assertEqual(pasts_in(("and", outer, inner)), [inner, outer])
        self.assertEqual(pasts_in(("and", inner, outer)), [inner, outer])

    def test_mixed_ones(self):
        mixed = ("before", ("next", ("before", A)))
        self.assertEqual(pasts_in(mixed), [("before", A), mixed])

    def test_all_of_many(self):
        for statement in large_statements(300, 6):
            found = pasts_in(statement)
            self.assertEqual(len(found), len(set(found)), statement)
            self.assertEqual(set(found), {part for part in standing(statement) if part[0] in ("before", "since")})
            for at, past in enumerate(found):
                for part in standing(past):
                    self.assertNotIn(part, found[at + 1:], statement)

    def test_a_new_list_each_time(self):
        told = pasts_in(("before", A))
        told.append("more")
        self.assertEqual(pasts_in(("before", A)), [("before", A)])


def standing(statement):
    """All statements that stand in it, itself too."""
    found = {statement}
    for part in statement:
        if isinstance(part, tuple):
            found |= standing(part)
    return found


class MarksIn(unittest.TestCase):
    def test_the_empty_one_is_always_there(self):
        self.assertEqual(marks_in(YES), [""])
        self.assertEqual(marks_in(("not", ("within", 3, YES))), [""])
        self.assertEqual(marks_in(A), ["", "a"])

    def test_rising_and_each_once(self):
        statement = ("until", ("or", ("mark", "c"), ("mark", "ab")), ("and", ("mark", "c"), ("not", ("mark", "b"))))
        self.assertEqual(marks_in(statement), ["", "ab", "b", "c"])
        self.assertEqual(marks_in(("and", B, A)), ["", "a", "b"])
        self.assertEqual(marks_in(("and", A, A)), ["", "a"])
        self.assertEqual(marks_in(("and", ("mark", "ba"), ("or", ("mark", "b"), ("mark", "aaaaaa")))),
                         ["", "aaaaaa", "b", "ba"])

    def test_a_word_is_no_mark(self):
        self.assertEqual(marks_in(("next", ("mark", "until"))), ["", "until"])

    def test_within_each_kind(self):
        for word in ONE_PART:
            self.assertEqual(marks_in((word, B)), ["", "b"], word)
        for word in TWO_PARTS:
            self.assertEqual(marks_in((word, B, A)), ["", "a", "b"], word)
        self.assertEqual(marks_in(("within", 2, B)), ["", "b"])

    def test_a_new_list_each_time(self):
        told = marks_in(A)
        told.append("more")
        self.assertEqual(marks_in(A), ["", "a"])


class NeedTold(unittest.TestCase):
    def refused(self, thing):
        """The kind of error with which it is refused."""
        with self.assertRaises(ValueError) as caught:
            need_told(thing)
        return type(caught.exception)

    def test_lets_by_and_gives_back(self):
        for statement in [A, YES, UNTIL, ("before", A), ("within", 4, A), ("until", A, ("within", 2, ("not", B))),
                          ("next", ("since", A, ("before", B))), nested(6), nested(6, "next")]:
            self.assertEqual(need_told(statement), statement)

    def test_bad_statement(self):
        for thing in other_things() + ["", "a", "yes", (), (YES,), list(A), nested(7), nested(5000), ("mark", ""),
                                       ("mark", "abcdefg"), ("within", 5, A), ("within", -1, A), ("within", True, A),
                                       ("within", False, A), ("not", "a"), ("maybe", A)]:
            self.assertIs(self.refused(thing), BadStatement, type(thing))

    def test_mixed(self):
        for statement in [("before", ("next", A)), ("since", A, UNTIL), ("next", ("before", ("within", 0, A)))]:
            self.assertIs(self.refused(statement), Mixed, statement)

    def test_six_wishes_and_seven(self):
        six = ("next", ("within", 4, A))
        self.assertEqual(need_told(six), six)
        self.assertIs(self.refused(("next", six)), TooMany)
        six = ("and", ("within", 4, A), UNTIL)
        self.assertEqual(need_told(six), six)
        self.assertIs(self.refused(("or", six, ("next", B))), TooMany)

    def test_in_this_order(self):
        many = ("next", ("next", ("within", 4, A)))
        mixed = ("before", ("next", A))
        self.assertIs(self.refused(("and", many, mixed)), Mixed)
        self.assertIs(self.refused(("and", many, ("before", many))), Mixed)
        self.assertIs(self.refused(("and", many, "a")), BadStatement)
        self.assertIs(self.refused(("and", mixed, "a")), BadStatement)
        self.assertIs(self.refused(("and", ("and", many, mixed), nested(6))), BadStatement)
        self.assertIs(self.refused(nested(7, "next")), BadStatement)
        self.assertIs(self.refused(("before", nested(6, "next"))), BadStatement)
