"""The classes of the refusals."""

import unittest

from bothends import errors

NAMES = [
    "BadLetters", "BadMachine", "BadPlain", "BadWord", "BadLength", "BadNumber", "Unlike", "NotHad", "TooMany",
]


class TestErrors(unittest.TestCase):
    def test_ends_error_is_straight_under_value_error(self):
        self.assertEqual(errors.EndsError.__bases__, (ValueError,))

    def test_the_nine_are_straight_under_ends_error(self):
        for name in NAMES:
            with self.subTest(name):
                self.assertEqual(getattr(errors, name).__bases__, (errors.EndsError,))

    def test_the_nine_are_nine(self):
        self.assertEqual(len({getattr(errors, name) for name in NAMES}), 9)
        for name in NAMES:
            self.assertEqual(getattr(errors, name).__name__, name)


if __name__ == "__main__":
    unittest.main()
