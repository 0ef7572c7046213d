import unittest

from soonsaid.errors import BadText
from soonsaid.notes import read, written
from soonsaid.statements import is_statement
from tests.samples import A, B, ONE_PART, TWO_PARTS, YES, Word, large_statements, nested, other_things, small_statements

UNTIL = ("until", A, B)

PAIRS = [
    (A, "'a'"),
    (("mark", "abcdef"), "'abcdef'"),
    (("mark", "yes"), "'yes'"),
    (("mark", "not"), "'not'"),
    (YES, "yes"),
    (("not", YES), "not(yes)"),
    (("not", A), "not('a')"),
    (("and", A, B), "and('a', 'b')"),
    (("or", YES, A), "or(yes, 'a')"),
    (("next", A), "next('a')"),
    (UNTIL, "until('a', 'b')"),
    (("within", 0, A), "within(0, 'a')"),
    (("within", 4, YES), "within(4, yes)"),
    (("before", B), "before('b')"),
    (("since", A, B), "since('a', 'b')"),
    (("until", A, ("within", 2, ("not", B))), "until('a', within(2, not('b')))"),
    (("or", ("and", A, B), ("since", ("next", A), YES)), "or(and('a', 'b'), since(next('a'), yes))"),
    (("before", ("next", A)), "before(next('a'))"),
    (("within", 1, ("until", ("or", A, B), B)), "within(1, until(or('a', 'b'), 'b'))"),
]


class Written(unittest.TestCase):
    def test_each_kind(self):
        for statement, text in PAIRS:
            self.assertEqual(written(statement), text)
            self.assertIs(type(written(statement)), str)

    def test_six_within_one_another(self):
        self.assertEqual(written(nested(6)), "not(not(not(not(not('a')))))")

    def test_no_text_twice(self):
        statements = small_statements() + large_statements(400, 6)
        self.assertEqual(len({written(statement) for statement in statements}), len(set(statements)))


class Read(unittest.TestCase):
    def refused(self, *things):
        for thing in things:
            with self.assertRaises(BadText, msg=repr(thing)):
                read(thing)

    def test_each_kind(self):
        for statement, text in PAIRS:
            self.assertEqual(read(text), statement)

    def test_just_what_is_written(self):
        for statement in small_statements() + large_statements(400, 6) + [nested(6), nested(6, "before")]:
            told = read(written(statement))
            self.assertEqual(told, statement)
            self.assertIs(is_statement(told), True)

    def test_no_text(self):
        self.refused(*other_things(), A, YES, UNTIL, (), b"yes", b"'a'", ["yes"], ["'a'"], Word("yes"), Word("'a'"))

    def test_other_texts(self):
        self.refused("", " ", "a", "A", "'", "''", "'''", "''''", "(", ")", "()", "yes()", "yes(yes)", "no", "YES",
                     "Yes", "mark", "mark()", "mark('a')", "('mark', 'a')", "('yes',)", "not", "not()", "not(",
                     "not)", "'a", "a'", '"a"', "`a`", "'a''", "''a'", "'a'b'", "''a''", "not('a'", "not 'a'", "None",
                     "True", "0", "2", "-", "'until('a', 'b')'", "not(a)", "not(not)")

    def test_marks_that_are_none(self):
        self.refused("'abcdefg'", "'A'", "'a b'", "' a'", "'a '", "'1'", "'a1'", "'\u00e9'", "'\uff41'", "'a,'", "'a('",
                     "'\n'", "'a\n'", "not('')", "and('a', '')", "until('abcdefg', 'b')")

    def test_other_blanks(self):
        for _, text in PAIRS:
            self.refused(" " + text, text + " ", text + "\n", "\n" + text, "\t" + text)
        self.refused("and('a','b')", "and('a' , 'b')", "and('a',  'b')", "and( 'a', 'b')", "and('a', 'b' )",
                     "and ('a', 'b')", "and('a',\t'b')", "and('a',\n'b')", "and('a',\u00a0'b')",
                     "within(2,'a')", "within( 2, 'a')", "within(2 , 'a')", "within(2,  'a')", "not( yes)", "not(yes )",
                     "not (yes)", "ye s", "'a '")

    def test_one_sign_more_less_or_another(self):
        for text in ["yes", "'ab'", "not('a')", "until('a', within(2, not('b')))", "or(yes, since('a', yes))"]:
            right = {written(statement) for statement in variants(read(text))}
            for at in range(len(text) + 1):
                changed = [text[:at] + text[at + 1:]]
                for sign in "abyz'(), 0234569\n\"\u00e9AY_-":
                    changed += [text[:at] + sign + text[at:], text[:at] + sign + text[at + 1:]]
                for other in changed:
                    if other in right:
                        self.assertEqual(written(read(other)), other)
                    else:
                        self.refused(other)

    def test_the_number_of_a_within(self):
        for figure in "01234":
            self.assertEqual(read(f"within({figure}, 'a')"), ("within", int(figure), A))
            self.assertIs(type(read(f"within({figure}, 'a')")[1]), int)
        for figure in ["True", "False", "5", "9", "01", "00", "10", "-1", "-0", "+1", "1.0", "2.", "", " ", "''", "'2'",
                       "None", "yes", "\u0662", "\u00b2", "1_0", "0x1", "1e0", "two", "2, 2", "(2)", "12", "0123"]:
            self.refused(f"within({figure}, 'a')")
        self.refused("within(2)", "within('a')", "within('a', 2)", "within()", "within(, 'a')", "within(2, )",
                     "within(2, 'a', 'b')", "within(2, 3)", "within 2, 'a'", "within(2, 2, 'a')", "not(2)",
                     "and(2, 'a')")

    def test_how_many_parts(self):
        for word in ONE_PART:
            self.refused(f"{word}()", f"{word}", f"{word}('a', 'b')", f"{word}('a', )", f"{word}(, 'a')",
                         f"{word}('a',)", f"{word}('a')('b')", f"{word}(('a'))", f"{word}(2, 'a')")
        for word in TWO_PARTS:
            self.refused(f"{word}()", f"{word}", f"{word}('a')", f"{word}('a', 'b', 'a')", f"{word}('a', )",
                         f"{word}(, 'a')", f"{word}('a', 'b', )", f"{word}('a', 'b'))", f"{word}(('a', 'b'))",
                         f"{word}('a', 'b'", f"{word}('a'), 'b')", f"{word}('a', ('b'))", f"{word}(2, 'a', 'b')",
                         f"{word}'a', 'b'", f"{word}['a', 'b']", f"{word}(, )", f"{word}(yes, yes), yes")

    def test_words_that_are_none(self):
        for word in ["", "no", "Not", "NOT", "nots", "nor", "maybe", "yes", "mark", "'a'", "always", "not'", "not("]:
            self.refused(f"{word}('a')", f"{word}('a', 'b')", f"{word}(2, 'a')")

    def test_seven_within_one_another(self):
        for word in ONE_PART:
            self.assertEqual(read(written(nested(6, word))), nested(6, word))
            self.refused(written(nested(7, word)), written(nested(8, word)))
        for word in TWO_PARTS:
            self.assertEqual(read(written((word, A, nested(5)))), (word, A, nested(5)))
            self.assertEqual(read(written((word, nested(5), nested(5)))), (word, nested(5), nested(5)))
            self.refused(written((word, A, nested(6))), written((word, nested(6), A)))
        self.assertEqual(read(written(("within", 3, nested(5)))), ("within", 3, nested(5)))
        self.refused(written(("within", 3, nested(6))))
        self.refused("not(not(not(not(not(not(yes))))))")

    def test_mixed_ones_and_those_of_many_wishes_are_statements(self):
        for statement in [("before", ("next", A)), ("next", ("next", ("within", 4, A)))]:
            self.assertEqual(read(written(statement)), statement)

    def test_very_long_texts(self):
        self.refused("not(" * 50000 + "'a'" + ")" * 50000, "and(" * 50000, "(" * 100000, ")" * 100000, "'" * 100000,
                     "'" + "a" * 100000 + "'", "and('a'" + ", 'a'" * 50000 + ")", ", " * 50000,
                     "and(yes, " * 50000 + "yes" + ")" * 50000)


def variants(statement):
    """Statements that are written with one sign more, less or another one, and the statement itself."""
    letters = ["a", "b", "y", "z"]
    found = [statement]
    if statement[0] == "mark":
        mark = statement[1]
        for at in range(len(mark) + 1):
            texts = [mark[:at] + mark[at + 1:]]
            texts += [mark[:at] + letter + mark[at:] for letter in letters]
            texts += [mark[:at] + letter + mark[at + 1:] for letter in letters]
            found += [("mark", text) for text in texts if text]
    if statement[0] == "within":
        found += [("within", k, statement[2]) for k in range(5)]
    for at, part in enumerate(statement):
        if isinstance(part, tuple):
            found += [statement[:at] + (other,) + statement[at + 1:] for other in variants(part)]
    return found
