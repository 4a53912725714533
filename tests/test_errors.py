"""The interface, pinwall/errors.py."""

import unittest

from pinwall import errors

NAMES = ("Full", "NoNote", "NoThread", "Busy", "NoRound", "NoView")


class Errors(unittest.TestCase):
    def test_any_refusal_is_a_value_error(self):
        self.assertEqual(errors.WallError.__bases__, (ValueError,))

    def test_each_refusal_stands_straight_under_wall_error(self):
        for name in NAMES:
            with self.subTest(name=name):
                self.assertEqual(getattr(errors, name).__bases__, (errors.WallError,))

    def test_no_two_names_are_one_class(self):
        self.assertEqual(len({getattr(errors, name) for name in NAMES}), len(NAMES))

    def test_each_is_taken_as_wall_error_and_not_as_another(self):
        for name in NAMES:
            with self.subTest(name=name):
                error = getattr(errors, name)("words")
                self.assertIsInstance(error, errors.WallError)
                self.assertIsInstance(error, ValueError)
                for other in NAMES:
                    self.assertEqual(isinstance(error, getattr(errors, other)), other == name)


if __name__ == "__main__":
    unittest.main()
