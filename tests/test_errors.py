"""The refusals: how their classes stand to one another."""

import unittest

from curdcellar import errors

NAMES = ("BadName", "Taken", "Unknown", "BadNumber", "Gone", "WrongRoom", "Mouldy", "TooMuch", "BadLine")


class Errors(unittest.TestCase):
    def test_cellar_error_stands_straight_under_value_error(self):
        self.assertEqual(errors.CellarError.__bases__, (ValueError,))

    def test_each_refusal_stands_straight_under_cellar_error(self):
        for name in NAMES:
            with self.subTest(name=name):
                self.assertEqual(getattr(errors, name).__bases__, (errors.CellarError,))

    def test_no_refusal_is_another(self):
        for name in NAMES:
            for other in NAMES:
                if name != other:
                    with self.subTest(name=name, other=other):
                        self.assertFalse(issubclass(getattr(errors, name), getattr(errors, other)))

    def test_each_refusal_can_be_raised_and_taken(self):
        for name in NAMES:
            for taken in (getattr(errors, name), errors.CellarError, ValueError):
                with self.subTest(name=name, taken=taken):
                    with self.assertRaises(taken):
                        raise getattr(errors, name)("some words")


if __name__ == "__main__":
    unittest.main()
