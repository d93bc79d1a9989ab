"""Points [43] to [45]: the judge."""

import copy
import itertools
import random
import unittest

from driftkept.judge import after_call, answer_of, first_fault, in_order, is_change, map_at
from support import draw_call, in_kinds
from test_plans import naive

LOOK, PUT, TAKE = ("look", 0), ("put", 0, 5), ("take", 0)
CHANGE, MOVE = ("change", 0, 5, 6), ("move", 0, 1)
PUTS = ("puts", ((0, 5), (1, 6)))


def row(call, answer, witness, first=1, last=90, thread=0, index=0):
    return (thread, index, call, answer, witness, first, last)


def going(call, witness, first=1, thread=0, index=0):
    return (thread, index, call, None, witness, first, None)


class PlainMaps(unittest.TestCase):
    plain = {0: 5, 1: 7, -3: 0}

    def check(self, call, answer, behind):
        before = dict(self.plain)
        found = after_call(self.plain, call)
        self.assertEqual(in_kinds(answer_of(self.plain, call)), in_kinds(answer), call)
        self.assertEqual(found, behind, call)
        self.assertIsNot(found, self.plain)
        self.assertEqual(self.plain, before)

    def test_look(self):
        for key, answer in ((0, 5), (1, 7), (-3, 0), (2, None)):
            self.check(("look", key), answer, self.plain)

    def test_put(self):
        self.check(("put", 0, 9), 5, {0: 9, 1: 7, -3: 0})
        self.check(("put", 0, 5), 5, self.plain)
        self.check(("put", -3, 1), 0, {0: 5, 1: 7, -3: 1})
        self.check(("put", 4, 0), None, {0: 5, 1: 7, -3: 0, 4: 0})

    def test_take(self):
        self.check(("take", 1), 7, {0: 5, -3: 0})
        self.check(("take", -3), 0, {0: 5, 1: 7})
        self.check(("take", 2), None, self.plain)

    def test_change(self):
        self.check(("change", 0, 5, 8), True, {0: 8, 1: 7, -3: 0})
        self.check(("change", 0, 5, 5), True, self.plain)
        self.check(("change", 0, 7, 8), False, self.plain)
        self.check(("change", -3, 0, 8), True, {0: 5, 1: 7, -3: 8})
        self.check(("change", 2, 0, 8), False, self.plain)

    def test_move(self):
        self.check(("move", 0, 2), True, {2: 5, 1: 7, -3: 0})
        self.check(("move", -3, 9), True, {0: 5, 1: 7, 9: 0})
        self.check(("move", 0, 1), False, self.plain)
        self.check(("move", 0, -3), False, self.plain)
        self.check(("move", 2, 4), False, self.plain)
        self.check(("move", 2, 0), False, self.plain)

    def test_puts(self):
        self.check(("puts", ((2, 1),)), (None,), {0: 5, 1: 7, -3: 0, 2: 1})
        self.check(("puts", ((1, 2), (0, 3))), (7, 5), {0: 3, 1: 2, -3: 0})
        self.check(("puts", ((9, 2), (0, 5), (-3, 4))), (None, 5, 0), {0: 5, 1: 7, -3: 4, 9: 2})
        self.check(("puts", ((1, 7), (0, 5))), (7, 5), self.plain)

    def test_an_empty_map(self):
        self.plain = {}
        self.check(PUT, None, {0: 5})
        self.check(MOVE, False, {})

    def test_drawn_calls(self):
        draw = random.Random(44)
        for _ in range(2000):
            self.plain = {draw.randrange(-4, 5): draw.randrange(3) for _ in range(5)}
            call = draw_call(draw, 4)
            self.check(call, *naive(call, self.plain))


class Changes(unittest.TestCase):
    def check(self, expected, found):
        self.assertIs(is_change(found), expected, found)

    def test_what_did_not_take_place(self):
        for call in (LOOK, PUT, TAKE, CHANGE, MOVE, PUTS):
            self.check(False, going(call, None))
            for answer in ("undone", "full"):
                self.check(False, row(call, answer, None))
        self.check(False, row(PUT, None, None))

    def test_what_has_not_ended(self):
        for call in (LOOK, PUT, TAKE, CHANGE, MOVE, PUTS, ("change", 0, 5, 5)):
            self.check(True, going(call, 9))

    def test_look(self):
        for answer in (None, 0, 5):
            self.check(False, row(LOOK, answer, 9))

    def test_put(self):
        self.check(True, row(PUT, None, 9))
        self.check(True, row(PUT, 0, 9))
        self.check(True, row(PUT, 6, 9))
        self.check(False, row(PUT, 5, 9))
        self.check(False, row(("put", 0, 0), 0, 9))
        self.check(True, row(("put", 0, 0), None, 9))

    def test_true_and_false_are_no_integers(self):
        self.check(True, row(("put", 0, 1), True, 9))
        self.check(True, row(("put", 0, 0), False, 9))
        self.check(True, row(("puts", ((0, 1),)), (True,), 9))
        self.check(False, row(CHANGE, 1, 9))
        self.check(False, row(MOVE, 1, 9))

    def test_take(self):
        self.check(True, row(TAKE, 5, 9))
        self.check(True, row(TAKE, 0, 9))
        self.check(False, row(TAKE, None, 9))

    def test_change(self):
        self.check(True, row(CHANGE, True, 9))
        self.check(False, row(CHANGE, False, 9))
        self.check(False, row(("change", 0, 5, 5), True, 9))
        self.check(False, row(("change", 0, 5, 5), False, 9))

    def test_move(self):
        self.check(True, row(MOVE, True, 9))
        self.check(False, row(MOVE, False, 9))

    def test_puts(self):
        self.check(False, row(PUTS, (5, 6), 9))
        for answer in ((5, None), (None, 6), (6, 5), (None, None), (5, 5)):
            self.check(True, row(PUTS, answer, 9))
        self.check(False, row(("puts", ((0, 0),)), (0,), 9))
        self.check(True, row(("puts", ((0, 0),)), (None,), 9))

    def test_an_answer_that_is_no_answer_of_this_kind(self):
        for answer in (None, "full", 5, ()):
            self.check(True, row(PUTS, answer, 9))


class Orders(unittest.TestCase):
    def test_witnesses(self):
        rows = [row(LOOK, None, 7), row(PUT, None, 3), going(PUT, None), row(TAKE, 5, 12), row(PUT, "full", None)]
        self.assertEqual(in_order(rows), [1, 0, 3])
        self.assertEqual(in_order([]), [])
        self.assertEqual(in_order([going(PUT, None)]), [])

    def test_changes_come_first_at_the_same_witness(self):
        rows = [row(LOOK, 5, 7), row(PUT, 5, 7), row(PUT, None, 7), row(LOOK, 5, 7), row(MOVE, False, 7)]
        self.assertEqual(in_order(rows), [2, 0, 1, 3, 4])
        rows = [row(LOOK, 5, 7), going(PUT, 7), row(LOOK, None, 6)]
        self.assertEqual(in_order(rows), [2, 1, 0])

    def test_the_earlier_row_comes_first(self):
        rows = [row(LOOK, None, 7, thread=2), row(LOOK, None, 7, thread=1), row(TAKE, None, 7, thread=0)]
        self.assertEqual(in_order(rows), [0, 1, 2])
        self.assertEqual(in_order([row(PUT, None, 7), row(TAKE, 5, 7), row(PUT, 2, 7)]), [0, 1, 2])

    def test_great_numbers(self):
        rows = [row(LOOK, None, number) for number in (10, 9, 100, 11, 1)]
        self.assertEqual(in_order(rows), [4, 1, 0, 3, 2])


class Maps(unittest.TestCase):
    rows = [
        row(PUT, None, 4),
        row(LOOK, 5, 5),
        row(CHANGE, True, 9),
        going(("puts", ((0, 1), (2, 2))), 12),
        row(MOVE, "undone", None),
        row(("put", 1, 8), None, 9),
        row(TAKE, None, 2),
        going(("take", 1), None),
    ]

    def test_before_at_and_behind_witnesses(self):
        maps = {0: {}, 3: {}, 4: {0: 5}, 8: {0: 5}, 9: {0: 6, 1: 8}, 11: {0: 6, 1: 8}, 12: {0: 1, 1: 8, 2: 2},
                10 ** 9: {0: 1, 1: 8, 2: 2}, -1: {}}
        for number, expected in maps.items():
            self.assertEqual(map_at(self.rows, number), expected, number)

    def test_rows_are_taken_in_the_order_of_the_history(self):
        for rows in itertools.permutations(self.rows[:4]):
            self.assertEqual(map_at(list(rows), 12), {0: 1, 2: 2})

    def test_no_rows(self):
        self.assertEqual(map_at([], 5), {})

    def test_rows_that_only_read_change_nothing(self):
        self.assertEqual(map_at([row(PUT, 5, 3)], 5), {})
        self.assertEqual(map_at([row(MOVE, False, 4), row(PUT, None, 3)], 5), {0: 5})

    def test_a_new_dict_each_time(self):
        map_at(self.rows, 4)[0] = 9
        self.assertEqual(map_at(self.rows, 4), {0: 5})


class Faults(unittest.TestCase):
    def check(self, expected, *rows):
        rows = list(rows)
        before = copy.deepcopy(rows)
        self.assertEqual(first_fault(rows), expected, rows)
        self.assertEqual(rows, before)

    def none(self, *rows):
        self.check(("", -1), *rows)

    def test_no_fault(self):
        self.none()
        self.none(row(PUT, None, 20, 1, 33), row(LOOK, 5, 37, 34, 39, index=1), going(TAKE, None, 34, thread=1))
        self.none(going(PUT, 20), row(LOOK, 5, 20, 2, 30, thread=1), row(("look", 0), None, 19, 2, 30, thread=2))

    def test_time_in_each_of_its_ways(self):
        good = row(PUT, None, 20, 1, 33, thread=2)
        self.none(good)
        for bad in (
            row(LOOK, 5, 9, 0, 30),
            row(LOOK, 5, 9, -5, 30),
            going(LOOK, None, 0),
            row(LOOK, "undone", None, 12, 11),
            row(LOOK, 5, 9, 10, 30),
            going(PUT, 9, 10),
            row(LOOK, 5, 31, 10, 30),
        ):
            self.check(("time", 0), bad, good)
            self.check(("time", 1), good, bad)

    def test_the_edges_of_time(self):
        self.none(row(LOOK, None, 1, 1, 1))
        self.none(row(LOOK, None, 7, 7, 30))
        self.none(row(LOOK, None, 30, 7, 30))
        self.none(row(LOOK, "undone", None, 7, 7))
        self.none(going(PUT, 7, 7))
        self.none(going(PUT, 10 ** 9, 7))
        self.none(going(PUT, None, 1))

    def test_a_row_twice(self):
        one, other = row(LOOK, None, 3, 1, 6), row(LOOK, None, 9, 7, 12)
        self.check(("row", 1), one, other)
        self.check(("row", 1), one, going(LOOK, None, 7))
        self.check(("row", 2), one, row(LOOK, None, 9, 7, 12, thread=1), one)
        self.none(one, row(LOOK, None, 9, 7, 12, thread=1))
        # One of the two that stand twice ended early enough for the next call.
        for rows in ((one, row(LOOK, None, 15, 13, 20)), (row(LOOK, None, 15, 13, 20), one)):
            self.check(("row", 2), rows[0], row(LOOK, None, 9, 7, 12, index=1), rows[1])

    def test_a_row_whose_call_before_is_missing_or_has_not_ended(self):
        second = row(LOOK, None, 9, 7, 12, index=1)
        self.check(("row", 0), second)
        self.check(("row", 1), going(LOOK, None, 1), second)
        self.check(("row", 1), row(LOOK, None, 3, 1, 6, thread=1), second)
        self.check(("row", 1), row(LOOK, None, 3, 1, 6), row(LOOK, None, 9, 7, 12, index=2))
        self.check(("row", 1), row(LOOK, None, 3, 1, 6), row(LOOK, None, 9, 7, 12, index=-1))

    def test_a_row_whose_call_before_ended_too_late(self):
        for last, expected in ((5, ("", -1)), (6, ("", -1)), (7, ("row", 1)), (8, ("row", 1))):
            self.check(expected, row(LOOK, None, 3, 1, last), row(LOOK, None, 9, 7, 12, index=1))

    def test_the_call_before_may_stand_behind(self):
        self.none(row(LOOK, None, 9, 7, 12, index=1), row(LOOK, None, 3, 1, 6))

    def test_missing_in_each_of_its_ways(self):
        for call, answer in ((LOOK, None), (LOOK, 5), (PUT, None), (TAKE, None), (CHANGE, False), (PUTS, (None, None))):
            self.check(("missing", 0), row(call, answer, None))
        for call in (LOOK, PUT, TAKE, CHANGE, MOVE, PUTS):
            for answer in ("full", "undone"):
                self.check(("missing", 0), row(call, answer, 9))
        self.check(("missing", 0), row(LOOK, "full", None))
        self.check(("missing", 0), row(LOOK, "full", 9))

    def test_what_is_not_missing(self):
        for call in (PUT, TAKE, CHANGE, MOVE, PUTS):
            for answer in ("full", "undone"):
                self.none(row(call, answer, None))
        self.none(row(LOOK, "undone", None))
        self.none(going(PUT, None))
        self.none(going(PUT, 9))
        self.none(going(LOOK, None))

    def test_twice(self):
        put = row(PUT, None, 9)
        self.check(("twice", 1), put, row(("put", 1, 5), None, 9, thread=1))
        self.check(("twice", 1), put, going(("put", 1, 5), 9, thread=1))
        self.check(("twice", 2), put, row(LOOK, 5, 9, thread=1), going(TAKE, 9, thread=2))
        self.check(("twice", 1), going(PUT, 9), row(PUT, None, 9, thread=1))
        self.none(put, row(LOOK, 5, 9, thread=1), row(LOOK, 5, 9, thread=2))
        self.none(row(LOOK, 5, 9, thread=1), row(PUT, 5, 9, thread=2), put)

    def test_answer(self):
        rows = [row(PUT, None, 4), row(LOOK, 5, 6, thread=1), row(TAKE, 5, 8, thread=2)]
        self.none(*rows)
        for at, answer in ((0, 4), (0, 0), (1, None), (1, 6), (2, 4), (2, None)):
            bad = list(rows)
            bad[at] = rows[at][:3] + (answer,) + rows[at][4:]
            self.check(("answer", at), *bad)

    def test_answers_of_all_kinds(self):
        plain = {0: 5, 2: 7}
        puts = row(("puts", ((0, 5), (2, 7))), (None, None), 2)
        for call in (LOOK, PUT, ("put", 2, 0), TAKE, ("take", 1), CHANGE, ("change", 0, 4, 5), MOVE, ("move", 1, 0), PUTS):
            answer = answer_of(plain, call)
            self.none(puts, row(call, answer, 8, thread=1))
            others = [other for other in (None, True, False, 0, 1, 5, 6, (), (5, None), (None, 5), [5, None])
                      if in_kinds(other) != in_kinds(answer)]
            for other in others:
                self.check(("answer", 1), puts, row(call, other, 8, thread=1))

    def test_an_answer_of_another_kind(self):
        one = row(("puts", ((0, 1), (1, 0))), (None, None), 2)
        self.none(one, row(LOOK, 1, 8, thread=1))
        self.check(("answer", 1), one, row(LOOK, True, 8, thread=1))
        self.check(("answer", 1), one, row(("look", 1), False, 8, thread=1))
        self.check(("answer", 1), one, row(("change", 0, 1, 2), 1, 8, thread=1))
        self.check(("answer", 1), one, row(("puts", ((0, 1),)), (True,), 8, thread=1))
        self.check(("answer", 1), one, row(("puts", ((0, 1),)), [1], 8, thread=1))

    def test_answers_are_looked_at_in_the_order_of_the_history(self):
        # Both looks are wrong, and the one that stands behind was shown the word before.
        self.check(("answer", 2), row(PUT, None, 4), row(LOOK, 6, 9, thread=1), row(LOOK, 6, 8, thread=2))
        self.check(("answer", 1), row(PUT, None, 4), row(LOOK, 6, 8, thread=1), row(LOOK, 6, 8, thread=2))

    def test_an_open_change_counts_and_has_no_answer(self):
        self.none(going(PUT, 4), row(LOOK, 5, 6, thread=1))
        self.check(("answer", 1), going(PUT, 4), row(LOOK, None, 6, thread=1))
        self.check(("answer", 1), going(PUT, None), row(LOOK, 5, 6, thread=1))
        self.none(going(PUT, 4), row(LOOK, None, 3, thread=1))

    def test_changes_come_first_at_the_same_witness(self):
        self.none(row(LOOK, 5, 6), row(PUT, None, 6, thread=1))
        self.check(("answer", 0), row(LOOK, None, 6), row(PUT, None, 6, thread=1))

    def test_several_faults(self):
        time = row(LOOK, None, 3, 0, 6, thread=0)
        twin = row(LOOK, None, 9, 7, 12, thread=1)
        missing = row(LOOK, "full", None, thread=2)
        put, same = row(PUT, None, 20, thread=3), row(PUT, 6, 20, thread=4)
        answer = row(LOOK, 8, 30, thread=5)
        for rows, word, at in (
            ([answer, put, same, missing, twin, twin, time], "time", 6),
            ([answer, put, same, missing, twin, twin], "row", 5),
            ([answer, put, same, missing, twin], "missing", 3),
            ([answer, put, same, twin], "twice", 2),
            ([answer, put, twin], "answer", 0),
            ([put, twin], "", -1),
        ):
            self.check((word, at), *rows)

    def test_the_first_row_of_several(self):
        self.check(("time", 1), row(LOOK, None, 2), row(LOOK, None, 3, 0, 6), row(LOOK, None, 0, 0, 6))
        self.check(("missing", 1), row(LOOK, None, 2), row(PUT, None, None, thread=1), row(LOOK, "full", None, thread=2))


if __name__ == "__main__":
    unittest.main()
