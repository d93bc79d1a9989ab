"""Points [25] to [27]: calls and their plans."""

import copy
import random
import unittest

from driftkept.plans import buckets_of, is_call, plan
from driftkept.records import EMPTY, bucket_of, is_items
from support import draw_call, in_kinds

CALLS = [
    ("look", 3),
    ("put", 3, 7),
    ("take", 3),
    ("change", 3, 7, 8),
    ("move", 3, 4),
    ("puts", ((3, 7),)),
    ("puts", ((3, 7), (4, 7))),
    ("puts", ((3, 7), (4, 8), (-1, 9))),
]

NO_INTEGERS = (True, False, None, "3", "", (), (3,), [3])


def replaced(value, at, part):
    return value[:at] + (part,) + value[at + 1:]


class AreCalls(unittest.TestCase):
    def check_none(self, value):
        self.assertIs(is_call(value), False, value)

    def test_each_kind(self):
        for call in CALLS:
            self.assertIs(is_call(call), True, call)

    def test_great_and_negative_numbers(self):
        for number in (0, -1, -10 ** 40, 10 ** 40):
            for call in (
                ("look", number),
                ("put", number, number),
                ("take", number),
                ("change", number, number, number),
                ("move", number, number + 1),
                ("puts", ((number, number),)),
            ):
                self.assertIs(is_call(call), True, call)

    def test_equal_values(self):
        self.assertIs(is_call(("change", 3, 7, 7)), True)
        self.assertIs(is_call(("puts", ((3, 7), (4, 7), (5, 7)))), True)

    def test_unknown_words(self):
        for word in ("", "Look", "read", "looks", "get", None, True, 0, ("look",), ["look"]):
            for rest in ((3,), (3, 4), (3, 4, 5), (((3, 7),),)):
                self.check_none((word,) + rest)

    def test_lists_in_the_place_of_tuples(self):
        for call in CALLS:
            self.check_none(list(call))
        for pairs in ([(3, 7)], [[3, 7]], ([3, 7],), ((3, 7), [4, 8]), {3: 7}):
            self.check_none(("puts", pairs))

    def test_parts_missing_or_too_many(self):
        for call in CALLS:
            self.check_none(call[:-1])
            for part in (3, None, "", ()):
                self.check_none(call + (part,))

    def test_parts_that_are_no_integers(self):
        for call in CALLS[:5]:
            for at in range(1, len(call)):
                for part in NO_INTEGERS:
                    self.check_none(replaced(call, at, part))

    def test_pairs_that_are_no_pairs_of_integers(self):
        for part in NO_INTEGERS:
            self.check_none(("puts", part))
            self.check_none(("puts", ((3, 7), part)))
            self.check_none(("puts", ((3, part),)))
            self.check_none(("puts", ((part, 7),)))
            self.check_none(("puts", ((3, 7), (4, part), (5, 6))))

    def test_pairs_that_are_no_tuples_of_two(self):
        for pair in ((), (3,), (3, 7, 8), [3, 7], "37", 37):
            self.check_none(("puts", (pair,)))
            self.check_none(("puts", ((4, 8), pair)))
        self.check_none(("puts", (3, 7)))
        self.check_none(("puts", 3, 7))

    def test_how_many_pairs(self):
        pairs = ((3, 7), (4, 7), (5, 7), (6, 7), (7, 7))
        for many in range(6):
            self.assertIs(is_call(("puts", pairs[:many])), 1 <= many <= 3, many)

    def test_a_key_twice(self):
        self.check_none(("move", 3, 3))
        for pairs in (((3, 7), (3, 8)), ((3, 7), (4, 7), (3, 7)), ((4, 1), (3, 7), (3, 8)), ((3, 7), (3, 7))):
            self.check_none(("puts", pairs))

    def test_anything_else(self):
        for value in (None, True, False, 0, 3, "look", "", (), [], {}, {"look": 3}, b"look", object(), ("look",)):
            self.check_none(value)


class Buckets(unittest.TestCase):
    def test_one_key(self):
        for key, bucket in ((0, 0), (3, 3), (4, 0), (-1, 3), (-4, 0), (-6, 2), (10 ** 30 + 1, 1), (-(10 ** 30) - 1, 3)):
            for call in (("look", key), ("put", key, 9), ("take", key), ("change", key, 1, 2), ("puts", ((key, 2),))):
                self.assertEqual(buckets_of(call), [bucket], call)

    def test_a_move(self):
        for key, other, buckets in ((4, 5, [0, 1]), (5, 4, [0, 1]), (4, 8, [0]), (-1, 2, [2, 3]), (3, -1, [3])):
            self.assertEqual(buckets_of(("move", key, other)), buckets)

    def test_puts(self):
        for keys, buckets in (
            ((3, 2, 1), [1, 2, 3]),
            ((7, 0), [0, 3]),
            ((9, 1, 5), [1]),
            ((6, -1, 2), [2, 3]),
            ((10 ** 20 + 3, -4, 3), [0, 3]),
        ):
            self.assertEqual(buckets_of(("puts", tuple((key, 7) for key in keys))), buckets)

    def test_a_new_list_each_time(self):
        call = ("move", 4, 5)
        buckets_of(call).append(9)
        self.assertEqual(buckets_of(call), [0, 1])


def items(*pairs):
    return ("items", pairs)


class Plans(unittest.TestCase):
    """Plans over records in which the keys 0, 4 and 1 have the values 5, 6 and 7."""

    def setUp(self):
        self.records = {0: items((0, 5), (4, 6)), 1: items((1, 7)), 2: EMPTY, 3: EMPTY}

    def check(self, call, expected):
        records = {bucket: self.records[bucket] for bucket in buckets_of(call)}
        before = copy.deepcopy(records)
        self.assertEqual(in_kinds_of(plan(call, records)), in_kinds_of(expected), call)
        self.assertEqual(records, before)

    def answer(self, call, value, bucket):
        self.check(call, ("answer", value, bucket))

    def change(self, call, answer, *rows):
        self.check(call, ("change", answer, list(rows)))

    def test_the_example_of_the_interface(self):
        found = plan(("move", 4, 5), {0: ("items", ((4, 7),)), 1: ("items", ())})
        self.assertEqual(found, ("change", True, [(0, ("items", ())), (1, ("items", ((5, 7),)))]))

    def test_look(self):
        self.answer(("look", 0), 5, 0)
        self.answer(("look", 4), 6, 0)
        self.answer(("look", 1), 7, 1)
        self.answer(("look", 8), None, 0)
        self.answer(("look", -1), None, 3)

    def test_put(self):
        self.answer(("put", 0, 5), 5, 0)
        self.answer(("put", 1, 7), 7, 1)
        self.change(("put", 0, 9), 5, (0, items((0, 9), (4, 6))))
        self.change(("put", 8, 9), None, (0, items((0, 5), (4, 6), (8, 9))))
        self.change(("put", -4, 0), None, (0, items((-4, 0), (0, 5), (4, 6))))
        self.change(("put", 2, 0), None, (2, items((2, 0))))

    def test_take(self):
        self.answer(("take", 8), None, 0)
        self.answer(("take", 3), None, 3)
        self.change(("take", 4), 6, (0, items((0, 5))))
        self.change(("take", 1), 7, (1, EMPTY))

    def test_a_key_whose_value_is_0(self):
        self.records[2] = items((2, 0))
        self.answer(("look", 2), 0, 2)
        self.answer(("put", 2, 0), 0, 2)
        self.change(("take", 2), 0, (2, EMPTY))
        self.change(("change", 2, 0, 1), True, (2, items((2, 1))))
        self.change(("move", 2, 3), True, (2, EMPTY), (3, items((3, 0))))
        self.answer(("move", 1, 2), False, 2)

    def test_change(self):
        self.change(("change", 4, 6, 9), True, (0, items((0, 5), (4, 9))))
        self.answer(("change", 4, 5, 9), False, 0)
        self.answer(("change", 4, 9, 6), False, 0)
        self.answer(("change", 3, 0, 9), False, 3)

    def test_change_to_the_same_value(self):
        self.answer(("change", 4, 6, 6), True, 0)
        self.answer(("change", 4, 5, 5), False, 0)
        self.answer(("change", 3, 0, 0), False, 3)

    def test_move_between_two_buckets(self):
        self.change(("move", 4, 5), True, (0, items((0, 5))), (1, items((1, 7), (5, 6))))
        self.change(("move", 1, 8), True, (0, items((0, 5), (4, 6), (8, 7))), (1, EMPTY))

    def test_move_within_one_bucket(self):
        self.change(("move", 0, 8), True, (0, items((4, 6), (8, 5))))
        self.change(("move", 4, -4), True, (0, items((-4, 6), (0, 5))))

    def test_move_with_the_answer_false(self):
        # The key is not there: its bucket alone tells it, whether the other one is there or not.
        self.answer(("move", 5, 2), False, 1)
        self.answer(("move", 5, 0), False, 1)
        self.answer(("move", 2, 1), False, 2)
        self.answer(("move", 8, 4), False, 0)
        self.answer(("move", 8, 12), False, 0)
        # The other one is there.
        self.answer(("move", 0, 1), False, 1)
        self.answer(("move", 1, 0), False, 0)
        self.answer(("move", 0, 4), False, 0)

    def test_puts_over_one_bucket(self):
        self.answer(("puts", ((0, 5),)), (5,), 0)
        self.answer(("puts", ((4, 6), (0, 5))), (6, 5), 0)
        self.change(("puts", ((4, 6), (0, 9))), (6, 5), (0, items((0, 9), (4, 6))))
        self.change(("puts", ((4, 6), (8, 5))), (6, None), (0, items((0, 5), (4, 6), (8, 5))))
        self.change(("puts", ((8, 1), (4, 2), (0, 3))), (None, 6, 5), (0, items((0, 3), (4, 2), (8, 1))))
        self.change(("puts", ((2, 0),)), (None,), (2, items((2, 0))))

    def test_puts_over_several_buckets(self):
        rows = [(0, items((0, 5), (4, 9))), (1, items((1, 8)))]
        self.change(("puts", ((4, 9), (1, 8))), (6, 7), *rows)
        self.change(("puts", ((1, 8), (4, 9))), (7, 6), *rows)
        expected = [(1, items((1, 7), (5, 2))), (2, items((2, 3))), (3, items((-1, 4)))]
        self.change(("puts", ((-1, 4), (2, 3), (5, 2))), (None, None, None), *expected)

    def test_puts_of_which_a_record_stays_equal(self):
        self.change(("puts", ((1, 7), (4, 9))), (7, 6), (0, items((0, 5), (4, 9))), (1, items((1, 7))))
        self.change(("puts", ((1, 8), (4, 6))), (7, 6), (0, items((0, 5), (4, 6))), (1, items((1, 8))))

    def test_puts_over_several_buckets_whose_keys_have_their_values_already(self):
        self.change(("puts", ((1, 7), (4, 6))), (7, 6), (0, self.records[0]), (1, self.records[1]))
        self.change(("puts", ((1, 7), (4, 6), (0, 5))), (7, 6, 5), (0, self.records[0]), (1, self.records[1]))

    def test_a_new_list_each_time(self):
        records = {0: self.records[0]}
        rows = plan(("put", 0, 9), records)[2]
        rows.append(None)
        self.assertEqual(len(plan(("put", 0, 9), records)[2]), 1)
        self.assertEqual(records, {0: self.records[0]})


def in_kinds_of(made):
    """A plan with the kinds of its parts, so that a list is no tuple and True is not 1."""
    if made[0] == "change":
        return (in_kinds(made[:2]), made[2].__class__, [in_kinds(row) for row in made[2]])
    return in_kinds(made)


def naive(call, plain):
    """The answer of a call, and the map behind it, with a plain dict."""
    behind = dict(plain)
    word, key = call[0], call[1]
    if word == "look":
        return plain.get(key), behind
    if word == "put":
        behind[key] = call[2]
        return plain.get(key), behind
    if word == "take":
        return behind.pop(key, None), behind
    if word == "change":
        if plain.get(key) != call[2]:
            return False, behind
        behind[key] = call[3]
        return True, behind
    if word == "move":
        if key not in plain or call[2] in plain:
            return False, behind
        behind[call[2]] = behind.pop(key)
        return True, behind
    behind.update(key)
    return tuple(plain.get(one) for one, value in key), behind


class Drawn(unittest.TestCase):
    def records_of(self, plain):
        return {
            bucket: ("items", tuple(sorted((key, plain[key]) for key in plain if bucket_of(key) == bucket)))
            for bucket in range(4)
        }

    def test_drawn_calls(self):
        draw = random.Random(25)
        kinds = {"answer": 0, "change": 0}
        for _ in range(4000):
            plain = {draw.randrange(-6, 7): draw.randrange(3) for _ in range(draw.randrange(7))}
            call = draw_call(draw, 6)
            answer, behind = naive(call, plain)
            buckets = sorted({bucket_of(key) for key in range(-6, 7) if key in keys_named(call)})
            self.assertEqual(buckets_of(call), buckets)
            records = {bucket: self.records_of(plain)[bucket] for bucket in buckets}
            made = plan(call, records)
            kinds[made[0]] += 1
            self.assertEqual(in_kinds(made[1]), in_kinds(answer), (call, plain))
            if made[0] == "change":
                self.assertTrue(behind != plain or call[0] == "puts" and len(buckets) > 1)
                self.assertEqual(made[2], [(bucket, self.records_of(behind)[bucket]) for bucket in buckets])
                self.assertTrue(all(is_items(record, bucket) for bucket, record in made[2]))
            else:
                self.assertEqual(behind, plain)
                self.assertIn(made[2], buckets)
        self.assertGreater(min(kinds.values()), 1000)


def keys_named(call):
    if call[0] == "puts":
        return [key for key, value in call[1]]
    return call[1:3] if call[0] == "move" else [call[1]]


if __name__ == "__main__":
    unittest.main()
