"""The refusals: their names, and what they stand under."""

import unittest

from lastwill import errors

KINDS = ("NoBox", "NoSlot", "NoHand", "NoPair", "NoWill", "TooMany", "NoText")


class Errors(unittest.TestCase):
    def test_any_refusal_is_a_value_error(self):
        self.assertEqual(errors.WillError.__bases__, (ValueError,))

    def test_each_kind_stands_under_will_error_alone(self):
        for name in KINDS:
            with self.subTest(name):
                self.assertEqual(getattr(errors, name).__bases__, (errors.WillError,))

    def test_each_is_defined_in_its_file_under_its_name(self):
        for name in ("WillError",) + KINDS:
            with self.subTest(name):
                self.assertEqual(getattr(errors, name).__module__, "lastwill.errors")
                self.assertEqual(getattr(errors, name).__name__, name)

    def test_each_can_be_raised_with_words(self):
        for name in ("WillError",) + KINDS:
            with self.subTest(name):
                with self.assertRaises(errors.WillError) as caught:
                    raise getattr(errors, name)("words")
                self.assertEqual(str(caught.exception), "words")


if __name__ == "__main__":
    unittest.main()
