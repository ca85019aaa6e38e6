"""The errors: which there are, what they stand under, how they are built."""

import unittest

from whensure import errors

WITHOUT_FIELDS = [
    "InvalidText", "UnknownItem", "InvalidShown", "InvalidRecord", "NotKept", "TooManyPins", "NotPinned",
    "TooManyUnderWay", "InvalidPromise", "NotForThisDevice", "CannotBeHeard", "NoGreatestTime", "BeginAnewFirst",
    "NothingPossible", "UnknownCommit", "InvalidPlan", "NotPossible",
]


class ErrorsTest(unittest.TestCase):
    def test_the_base_is_directly_under_value_error(self):
        self.assertEqual(errors.WhensureError.__bases__, (ValueError,))

    def test_each_error_is_directly_under_the_base(self):
        for name in WITHOUT_FIELDS + ["InvalidFrame"]:
            with self.subTest(name):
                self.assertEqual(getattr(errors, name).__bases__, (errors.WhensureError,))

    def test_each_is_defined_in_this_file(self):
        for name in WITHOUT_FIELDS + ["InvalidFrame", "WhensureError"]:
            with self.subTest(name):
                self.assertEqual(getattr(errors, name).__module__, "whensure.errors")
                self.assertEqual(getattr(errors, name).__name__, name)

    def test_each_without_fields_is_built_without_arguments(self):
        for name in WITHOUT_FIELDS:
            with self.subTest(name):
                error = getattr(errors, name)()
                self.assertEqual(vars(error), {})
                self.assertIsInstance(error, ValueError)

    def test_invalid_frame_has_its_two_fields(self):
        error = errors.InvalidFrame(17, "no such device")
        self.assertEqual((error.line, error.reason), (17, "no such device"))
        self.assertEqual(vars(error), {"line": 17, "reason": "no such device"})

    def test_invalid_frame_takes_exactly_two_arguments(self):
        for arguments in [(), (1,), (1, "no kind", 2)]:
            with self.subTest(arguments), self.assertRaises(TypeError):
                errors.InvalidFrame(*arguments)


if __name__ == "__main__":
    unittest.main()
