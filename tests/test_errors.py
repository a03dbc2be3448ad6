"""The interface's head: the classes of errors."""

import unittest

from twinpurse import errors

NAMES = ("BadProgram", "BadStanding", "BadFan", "BadRoad", "BadArgument", "BadText", "TooLarge", "BadLine")


class Errors(unittest.TestCase):
    def test_base_is_a_value_error(self):
        self.assertTrue(issubclass(errors.TwinpurseError, ValueError))
        self.assertIsNot(errors.TwinpurseError, ValueError)

    def test_each_is_under_the_base(self):
        for name in NAMES:
            with self.subTest(name):
                told = getattr(errors, name)
                self.assertTrue(issubclass(told, errors.TwinpurseError))
                self.assertIsNot(told, errors.TwinpurseError)

    def test_none_is_under_another_one(self):
        classes = [getattr(errors, name) for name in NAMES]
        for one in classes:
            for other in classes:
                self.assertEqual(issubclass(one, other), one is other, (one, other))

    def test_they_carry_words(self):
        for name in NAMES:
            with self.assertRaises(errors.TwinpurseError) as caught:
                raise getattr(errors, name)("why")
            self.assertEqual(str(caught.exception), "why")


if __name__ == "__main__":
    unittest.main()
