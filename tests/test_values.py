"""Points [1] and [5]: what a value is, and that True and False are no integers."""

import unittest

from driftkept.values import is_ascending, is_many, is_same, is_value, is_whole, is_within


class Integers(unittest.TestCase):
    def test_true_and_false_are_no_integers(self):
        for value in (True, False):
            self.assertIs(is_whole(value), False)
            self.assertIs(is_many(value), False)
            self.assertIs(is_within(value, 0, 1), False)

    def test_what_is_no_integer(self):
        for value in (None, "1", (), (1,), [], 1.0, b"1"):
            self.assertIs(is_whole(value), False)
            self.assertIs(is_many(value), False)
            self.assertIs(is_within(value, 0, 9), False)

    def test_limits(self):
        self.assertEqual([is_many(value) for value in (-1, 0, 1, 10 ** 30)], [False, True, True, True])
        self.assertEqual([is_within(value, 1, 3) for value in range(5)], [False, True, True, True, False])

    def test_numbers_that_ascend(self):
        for numbers in ([], [4], [-1, 0], [0, 1, 10 ** 30]):
            self.assertIs(is_ascending(numbers), True)
        for numbers in ([0, 0], [1, 0], [0, 1, 1], [0, 2, 1], [1, 0, 2]):
            self.assertIs(is_ascending(numbers), False)


class Values(unittest.TestCase):
    def test_what_a_cell_can_hold(self):
        for value in (None, True, False, 0, -1, 10 ** 30, "", "a", (), (1, "a", None), (((), True), (False,))):
            self.assertIs(is_value(value), True)

    def test_what_a_cell_cannot_hold(self):
        for value in ([], {}, {1}, b"", 1.5, object(), ([],), (1, (2, (3, b"")))):
            self.assertIs(is_value(value), False)

    def test_equal_values(self):
        for one, other in ((1, 1), ("a", "a"), (None, None), (True, True), ((), ()), ((1, (2,)), (1, (2,)))):
            self.assertIs(is_same(one, other), True)

    def test_values_that_differ(self):
        pairs = (
            (1, True),
            (0, False),
            (0, None),
            (False, None),
            ("1", 1),
            ((), None),
            ((), 0),
            ((1,), 1),
            ((1,), (True,)),
            (((0,),), ((False,),)),
            ((1,), (1, 2)),
            ((1, 2), (1, 3)),
            ((1, 2), (2, 2)),
        )
        for one, other in pairs:
            self.assertIs(is_same(one, other), False)
            self.assertIs(is_same(other, one), False)


if __name__ == "__main__":
    unittest.main()
