import unittest

from soonsaid import errors

KINDS = ["BadStatement", "Mixed", "TooMany", "BadMark", "NoMark", "BadText"]


class Errors(unittest.TestCase):
    def test_each_is_straight_under_said_error(self):
        for name in KINDS:
            with self.subTest(name):
                self.assertEqual(getattr(errors, name).__bases__, (errors.SaidError,))

    def test_none_is_under_another(self):
        for name in KINDS:
            for other in KINDS:
                if name != other:
                    self.assertFalse(issubclass(getattr(errors, name), getattr(errors, other)), (name, other))

    def test_said_error_is_a_value_error(self):
        self.assertEqual(errors.SaidError.__bases__, (ValueError,))

    def test_each_is_caught_as_said_error_and_as_nothing_else(self):
        for name in KINDS:
            with self.assertRaises(errors.SaidError) as caught:
                raise getattr(errors, name)("why")
            self.assertIs(type(caught.exception), getattr(errors, name))
            self.assertEqual(str(caught.exception), "why")
