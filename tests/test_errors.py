"""The errors of the interface."""

import unittest

from lettertree import errors

NAMES = ("BadWeb", "NoHand", "NoRoad", "NoLetter", "BadText")


class Errors(unittest.TestCase):
    def test_web_error_is_a_value_error(self):
        self.assertEqual(errors.WebError.__bases__, (ValueError,))

    def test_each_refusal_stands_right_under_web_error(self):
        for name in NAMES:
            self.assertEqual(getattr(errors, name).__bases__, (errors.WebError,), name)

    def test_each_is_defined_in_its_file_under_its_name(self):
        for name in NAMES + ("WebError",):
            self.assertEqual(getattr(errors, name).__module__, "lettertree.errors")
            self.assertEqual(getattr(errors, name).__name__, name)

    def test_none_catches_another_one(self):
        for name in NAMES:
            for other in NAMES:
                below = issubclass(getattr(errors, name), getattr(errors, other))
                self.assertEqual(below, name == other, (name, other))

    def test_bad_web_has_its_fields(self):
        refusal = errors.BadWeb("road", 7)
        self.assertEqual((refusal.why, refusal.number), ("road", 7))

    def test_bad_text_has_its_field(self):
        self.assertEqual(errors.BadText(4).row, 4)

    def test_fields_are_each_object_s_own(self):
        first, second = errors.BadWeb("hands", 0), errors.BadWeb("road", 2)
        self.assertEqual((first.why, first.number), ("hands", 0))
        self.assertEqual((second.why, second.number), ("road", 2))


if __name__ == "__main__":
    unittest.main()
