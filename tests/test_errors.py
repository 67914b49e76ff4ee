"""The interface: the refusals."""

import unittest

from skyframes import errors

PLAIN = ("BadSize", "BadRoom", "BadStream", "BadData", "BadFrame", "BadPlan")
WITH_AT = ("BadFrames", "BadMarks", "BadLog")


class ErrorsTest(unittest.TestCase):
    def test_all_are_refusals(self):
        self.assertTrue(issubclass(errors.SkyError, ValueError))
        for name in PLAIN + WITH_AT + ("BadText",):
            self.assertEqual(getattr(errors, name).__bases__, (errors.SkyError,), name)

    def test_plain_ones_can_be_raised(self):
        for name in PLAIN:
            with self.assertRaises(errors.SkyError) as caught:
                raise getattr(errors, name)("why")
            self.assertEqual(str(caught.exception), "why")

    def test_at_is_set(self):
        for name in WITH_AT:
            self.assertEqual(getattr(errors, name)(7).at, 7, name)

    def test_line_is_set(self):
        self.assertEqual(errors.BadText(7).line, 7)

    def test_they_are_defined_there(self):
        for name in PLAIN + WITH_AT + ("SkyError", "BadText"):
            self.assertEqual(getattr(errors, name).__module__, "skyframes.errors")


if __name__ == "__main__":
    unittest.main()
