"""The errors of the interface."""

import unittest

from hatguess import errors

NAMES = ["BadColours", "BadHats", "BadPlayer", "BadTables", "BadPower", "BadNumber", "Won"]


class Errors(unittest.TestCase):
    def test_hat_error_stands_straight_under_value_error(self):
        self.assertEqual(errors.HatError.__bases__, (ValueError,))

    def test_each_other_stands_straight_under_hat_error(self):
        for name in NAMES:
            with self.subTest(name=name):
                self.assertEqual(getattr(errors, name).__bases__, (errors.HatError,))

    def test_no_two_are_the_same(self):
        self.assertEqual(len({getattr(errors, name) for name in NAMES}), len(NAMES))

    def test_each_has_its_own_name(self):
        for name in NAMES + ["HatError"]:
            with self.subTest(name=name):
                self.assertEqual(getattr(errors, name).__name__, name)


if __name__ == "__main__":
    unittest.main()
