import unittest

from showtree import errors
from showtree.errors import NoWorld, ShowError, TooLarge, Unread
from showtree.texts import read


class ErrorsTest(unittest.TestCase):
    def test_show_error_is_straight_under_value_error(self):
        self.assertEqual(ShowError.__bases__, (ValueError,))

    def test_each_refusal_is_straight_under_show_error(self):
        for refusal in (Unread, TooLarge, NoWorld):
            self.assertEqual(refusal.__bases__, (ShowError,))

    def test_no_refusal_takes_another_one(self):
        refusals = (Unread, TooLarge, NoWorld)
        for one in refusals:
            for other in refusals:
                self.assertEqual(issubclass(one, other), one is other)

    def test_all_are_defined_in_the_file_of_the_errors(self):
        for name in ("ShowError", "Unread", "TooLarge", "NoWorld"):
            self.assertEqual(getattr(errors, name).__module__, "showtree.errors")

    def test_unread_is_taken_by_show_error(self):
        with self.assertRaises(ShowError):
            read("")

    def test_unread_is_taken_by_value_error(self):
        with self.assertRaises(ValueError):
            read("")

    def test_unread_is_taken_by_neither_of_the_others(self):
        for other in (TooLarge, NoWorld):
            with self.assertRaises(Unread):
                try:
                    read("")
                except other:
                    self.fail("taken by " + other.__name__)


if __name__ == "__main__":
    unittest.main()
