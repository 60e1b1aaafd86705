"""[3]: the error classes."""

import unittest

from listwindow import errors

NAMES = ["InvalidNumber", "InvalidRow", "InvalidColumn", "InvalidSorting", "InvalidOrder", "InvalidFilters",
         "InvalidRows", "InvalidPosition", "InvalidMarks", "InvalidValue", "InvalidName", "UnknownPlace",
         "InvalidDeed", "NothingToUndo", "Unreadable"]


class ErrorsTest(unittest.TestCase):
    def test_window_error_is_a_value_error(self):
        self.assertTrue(issubclass(errors.WindowError, ValueError))
        self.assertEqual(errors.WindowError.__bases__, (ValueError,))

    def test_others_are_direct_subclasses(self):
        for name in NAMES:
            self.assertEqual(getattr(errors, name).__bases__, (errors.WindowError,), name)

    def test_there_are_no_others(self):
        classes = [name for name, held in vars(errors).items() if isinstance(held, type)]
        self.assertEqual(sorted(classes), sorted(NAMES + ["WindowError"]))

    def test_the_value_is_stored_itself(self):
        for name in NAMES + ["WindowError"]:
            for value in [3, None, "text", [1, [2]], ([], False), object(), 10 ** 5000, (), {}]:
                self.assertIs(getattr(errors, name)(value).value, value)
                self.assertIs(getattr(errors, name)(value=value).value, value)

    def test_just_one_argument(self):
        for name in NAMES + ["WindowError"]:
            with self.assertRaises(TypeError):
                getattr(errors, name)()
            with self.assertRaises(TypeError):
                getattr(errors, name)(1, 2)

    def test_they_can_be_raised_and_caught(self):
        for name in NAMES:
            with self.assertRaises(errors.WindowError) as caught:
                raise getattr(errors, name)([1])
            self.assertEqual(caught.exception.value, [1])
