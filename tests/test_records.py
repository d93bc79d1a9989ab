"""Point [24]: records."""

import random
import unittest

from driftkept.records import BUCKETS, EMPTY, bucket_of, is_items, value_in, with_item, without_item
from support import in_kinds

GREAT = 10 ** 30


class Buckets(unittest.TestCase):
    def test_there_are_four_and_the_empty_record(self):
        self.assertEqual(in_kinds(BUCKETS), ("int", 4))
        self.assertEqual(EMPTY, ("items", ()))

    def test_the_bucket_is_the_key_modulo_4(self):
        keys = [0, 1, 2, 3, 4, 5, 7, 8, 11, GREAT, GREAT + 3]
        self.assertEqual([bucket_of(key) for key in keys], [0, 1, 2, 3, 0, 1, 3, 0, 3, 0, 3])

    def test_keys_below_0(self):
        keys = [-1, -2, -3, -4, -5, -8, -GREAT, -GREAT - 1]
        self.assertEqual([bucket_of(key) for key in keys], [3, 2, 1, 0, 3, 0, 0, 3])


class IsItems(unittest.TestCase):
    def check(self, value, bucket, expected=False):
        self.assertIs(is_items(value, bucket), expected, (value, bucket))

    def test_records(self):
        for bucket in range(4):
            self.check(EMPTY, bucket, True)
        self.check(("items", ((4, 7),)), 0, True)
        self.check(("items", ((-7, 0), (-3, -5), (1, 0), (5, 5), (GREAT + 1, GREAT))), 1, True)
        self.check(("items", ((-1, 1), (3, 1))), 3, True)

    def test_keys_of_another_bucket(self):
        for bucket in (0, 2, 3):
            self.check(("items", ((1, 7),)), bucket)
        self.check(("items", ((0, 7), (5, 7), (8, 7))), 0)
        self.check(("items", ((0, 7), (4, 7), (9, 7))), 0)
        self.check(("items", ((-1, 7),)), 1)

    def test_keys_that_do_not_ascend(self):
        self.check(("items", ((4, 7), (0, 7))), 0)
        self.check(("items", ((4, 7), (4, 7))), 0)
        self.check(("items", ((4, 7), (4, 8))), 0)
        self.check(("items", ((0, 7), (8, 7), (4, 7))), 0)
        self.check(("items", ((0, 7), (4, 7), (4, 7))), 0)

    def test_true_and_false_are_no_integers(self):
        self.check(("items", ((True, 7),)), 1)
        self.check(("items", ((False, 7),)), 0)
        self.check(("items", ((1, True),)), 1)
        self.check(("items", ((1, False),)), 1)
        self.check(("items", ((1, 2), (5, True))), 1)

    def test_lists_in_the_place_of_tuples(self):
        self.check(["items", ((0, 7),)], 0)
        self.check(["items", ()], 0)
        self.check(("items", [(0, 7)]), 0)
        self.check(("items", []), 0)
        self.check(("items", ([0, 7],)), 0)

    def test_parts_that_are_missing_or_too_many(self):
        for value in ((), ("items",), ("items", (), ()), ((),), ((), "items")):
            self.check(value, 0)
        for pair in ((), (0,), (0, 7, 7), 0, None, "07", ((0, 7),)):
            self.check(("items", (pair,)), 0)
            self.check(("items", ((0, 7), pair)), 0)

    def test_anything(self):
        others = [None, True, False, "", "item", b"items", {"items": ()}, {1, 2}, object(), 1.5, []]
        for value in [*others, 0, 4, "items"]:
            self.check(value, 0)
            self.check(("items", value), 0)
            self.check(("items", (value,)), 0)
        for value in others:
            self.check((value, ()), 0)
            self.check(("items", ((value, 7),)), 0)
            self.check(("items", ((0, value),)), 0)
        self.check(("Items", ()), 0)
        self.check(("deed", ()), 0)
        self.check(("deed", 9, ((6, 8, 9),), 0, 1, None), 0)


class Items(unittest.TestCase):
    record = ("items", ((-3, 10), (1, 20), (5, 30)))

    def test_value_in(self):
        self.assertEqual([value_in(self.record, key) for key in (-3, 1, 5)], [10, 20, 30])
        for key in (-7, -1, 0, 9, 20, GREAT):
            self.assertIsNone(value_in(self.record, key))
            self.assertIsNone(value_in(EMPTY, key))

    def test_a_value_of_0(self):
        self.assertEqual(value_in(("items", ((4, 0),)), 4), 0)

    def test_with_a_key_that_is_there(self):
        self.assertEqual(with_item(self.record, -3, 0), ("items", ((-3, 0), (1, 20), (5, 30))))
        self.assertEqual(with_item(self.record, 1, -1), ("items", ((-3, 10), (1, -1), (5, 30))))
        self.assertEqual(with_item(self.record, 5, GREAT), ("items", ((-3, 10), (1, 20), (5, GREAT))))
        self.assertEqual(with_item(self.record, 5, 30), self.record)

    def test_with_a_key_that_is_not_there(self):
        self.assertEqual(with_item(EMPTY, 4, 7), ("items", ((4, 7),)))
        self.assertEqual(with_item(self.record, -7, 0), ("items", ((-7, 0), (-3, 10), (1, 20), (5, 30))))
        self.assertEqual(with_item(("items", ((1, 20), (9, 30))), 5, 0), ("items", ((1, 20), (5, 0), (9, 30))))
        self.assertEqual(with_item(self.record, 9, 0), ("items", ((-3, 10), (1, 20), (5, 30), (9, 0))))

    def test_without_a_key_that_is_there(self):
        self.assertEqual(without_item(self.record, -3), ("items", ((1, 20), (5, 30))))
        self.assertEqual(without_item(self.record, 1), ("items", ((-3, 10), (5, 30))))
        self.assertEqual(without_item(self.record, 5), ("items", ((-3, 10), (1, 20))))
        self.assertEqual(without_item(("items", ((4, 7),)), 4), EMPTY)

    def test_without_a_key_that_is_not_there(self):
        for key in (-7, -1, 9, 10, 20):
            self.assertEqual(without_item(self.record, key), self.record)
        self.assertEqual(without_item(EMPTY, 4), EMPTY)

    def test_the_record_that_is_passed_stays(self):
        record = ("items", ((-3, 10), (1, 20)))
        value_in(record, 1)
        with_item(record, 5, 1)
        with_item(record, 1, 1)
        without_item(record, 1)
        self.assertEqual(record, ("items", ((-3, 10), (1, 20))))

    def test_drawn_changes_are_those_of_a_dict(self):
        draw = random.Random(24)
        for bucket in range(4):
            record, plain = EMPTY, {}
            for _ in range(200):
                key = draw.randrange(-6, 6) * 4 + bucket
                self.assertEqual(value_in(record, key), plain.get(key))
                if draw.random() < 0.6:
                    plain[key] = draw.randrange(-3, 3)
                    record = with_item(record, key, plain[key])
                else:
                    plain.pop(key, None)
                    record = without_item(record, key)
                self.assertEqual(record, ("items", tuple(sorted(plain.items()))))
                self.assertTrue(is_items(record, bucket))


if __name__ == "__main__":
    unittest.main()
