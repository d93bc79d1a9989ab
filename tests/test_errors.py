"""Points [1] and [2]: the errors."""

import unittest

from driftkept.errors import Broken, LineError, NotValid
from driftkept.memory import Layout


class Errors(unittest.TestCase):
    def test_a_line_error_is_a_value_error(self):
        self.assertTrue(issubclass(LineError, ValueError))

    def test_both_errors_stand_directly_below_line_error(self):
        self.assertEqual(NotValid.__bases__, (LineError,))
        self.assertEqual(Broken.__bases__, (LineError,))

    def test_neither_error_is_the_other_one(self):
        self.assertFalse(issubclass(NotValid, Broken))
        self.assertFalse(issubclass(Broken, NotValid))

    def test_each_error_is_made_without_an_argument(self):
        for error in (LineError, NotValid, Broken):
            with self.assertRaises(error):
                raise error()

    def test_a_refusal_is_caught_by_all_of_its_names(self):
        for error in (NotValid, LineError, ValueError):
            with self.assertRaises(error):
                Layout(0, 1, 4)


if __name__ == "__main__":
    unittest.main()
