"""The refusals, and their fields."""

import unittest

from ackbits import errors
from ackbits.errors import BadBits, BadEvent, BadMark, BadSetting, BadText, BitsError, Full

KINDS = (BadSetting, BadMark, BadBits, Full, BadEvent, BadText)


class ErrorsTest(unittest.TestCase):
    def test_every_refusal_is_a_bits_error_and_none_is_another_one(self):
        self.assertEqual(BitsError.__bases__, (ValueError,))
        for kind in KINDS:
            self.assertEqual(kind.__bases__, (BitsError,), kind)

    def test_they_are_defined_in_the_file_of_errors(self):
        for kind in (BitsError,) + KINDS:
            self.assertEqual(kind.__module__, "ackbits.errors")
            self.assertIs(getattr(errors, kind.__name__), kind)

    def test_fields_are_set_when_the_object_is_created(self):
        self.assertEqual(BadSetting("late").word, "late")
        self.assertEqual(BadEvent(400).number, 400)
        self.assertEqual(BadText(0).place, 0)

    def test_fields_are_each_object_s_own(self):
        one, other = BadSetting("marks"), BadSetting("ahead")
        self.assertEqual((one.word, other.word), ("marks", "ahead"))
        for kind in KINDS:
            self.assertNotIn("word", vars(kind))

    def test_those_without_fields_take_a_message(self):
        for kind in (BitsError, BadMark, BadBits, Full):
            self.assertEqual(str(kind("so")), "so")


if __name__ == "__main__":
    unittest.main()
