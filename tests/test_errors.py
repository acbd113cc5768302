"""The refusals that the interface lists."""

import unittest

from ruleswood import errors


class ErrorsTest(unittest.TestCase):
    def test_any_refusal_is_a_value_error(self):
        self.assertEqual(errors.WoodError.__bases__, (ValueError,))

    def test_each_other_one_stands_straight_under_it(self):
        for name in ("BadOrder", "NoTerm", "NoPlace", "BadText", "TooHeavy", "TooLong"):
            with self.subTest(name=name):
                self.assertEqual(getattr(errors, name).__bases__, (errors.WoodError,))

    def test_they_are_told_apart(self):
        for name in ("BadOrder", "NoTerm", "NoPlace", "BadText", "TooHeavy", "TooLong"):
            with self.subTest(name=name), self.assertRaises(errors.WoodError) as caught:
                raise getattr(errors, name)("why")
            self.assertEqual(type(caught.exception).__name__, name)


if __name__ == "__main__":
    unittest.main()
