"""Points [1], [2], [5] and [7]: accesses, their results and refusals, and the log."""

import unittest

from driftkept.errors import NotValid
from driftkept.memory import Layout, Memory
from support import a_memory, behind_fences, in_kinds, told

VALUES = (None, True, False, 0, -5, 10 ** 30, "", "word", (), (1,), ("items", ((1, 2), (3, 4))), (((None,),), True))
NO_VALUES = ([], [1], {}, {1: 2}, {1}, b"a", 1.5, object(), (1, [2]), (1, (2, (3, {}))), int, ([],))


class Results(unittest.TestCase):
    def setUp(self):
        self.memory = a_memory(threads=2, words=2, records=6)
        self.layout = self.memory.layout
        self.word = self.layout.word(0)

    def test_read_returns_the_present_value(self):
        memory = self.memory
        self.assertEqual(memory.access(0, ("read", self.word)), (self.layout.record(0), 1))
        self.assertEqual(memory.access(1, ("read", self.layout.epoch())), (0, 2))
        self.assertEqual(memory.access(0, ("read", self.layout.record(5))), (None, 3))
        self.assertEqual(memory.trail(self.word), [self.layout.record(0)])

    def test_read_returns_the_last_value_of_a_trail(self):
        for value in (4, 5, 6):
            self.memory.access(0, ("write", self.word, value))
        self.assertEqual(self.memory.access(1, ("read", self.word)), (6, 4))
        self.assertEqual(self.memory.trail(self.word), [self.layout.record(0), 4, 5, 6])

    def test_write_gives_a_lasting_cell_every_kind_of_value(self):
        trail = [in_kinds(self.layout.record(0))]
        for number, value in enumerate(VALUES, 1):
            self.assertEqual(self.memory.access(0, ("write", self.word, value)), (None, number))
            trail.append(in_kinds(value))
            self.assertEqual([in_kinds(kept) for kept in self.memory.trail(self.word)], trail)
            self.assertEqual(in_kinds(self.memory.peek(self.word)), in_kinds(value))

    def test_write_gives_a_passing_cell_the_value(self):
        for cell in (self.layout.epoch(), self.layout.epoch_slot(1)):
            for value in VALUES:
                self.assertIsNone(self.memory.access(1, ("write", cell, value))[0])
                self.assertEqual(in_kinds(self.memory.peek(cell)), in_kinds(value))

    def test_write_of_an_equal_value_is_added_to_the_trail(self):
        first = self.layout.record(0)
        self.assertEqual(self.memory.access(0, ("write", self.word, first)), (None, 1))
        self.assertEqual(self.memory.access(0, ("write", self.word, first)), (None, 2))
        self.assertEqual(self.memory.trail(self.word), [first, first, first])

    def test_a_write_changes_no_other_cell(self):
        for cell in range(self.layout.cells()):
            memory = Memory(self.layout)
            before = told(memory)
            memory.access(0, ("write", cell, "new"))
            before[2][cell] = "new"
            if self.layout.is_lasting(cell):
                before[3][cell].append("new")
            self.assertEqual(told(memory)[2:], before[2:])

    def test_swap_that_succeeds(self):
        first = self.layout.record(0)
        self.assertEqual(in_kinds(self.memory.access(0, ("swap", self.word, first, "a"))), in_kinds((True, 1)))
        self.assertEqual(self.memory.trail(self.word), [first, "a"])
        self.assertEqual(self.memory.access(0, ("swap", self.word, "a", "a")), (True, 2))
        self.assertEqual(self.memory.trail(self.word), [first, "a", "a"])
        self.assertEqual(self.memory.access(0, ("swap", 0, 0, 1)), (True, 3))
        self.assertEqual(self.memory.peek(0), 1)

    def test_swap_that_does_not_succeed(self):
        first = self.layout.record(0)
        self.assertEqual(in_kinds(self.memory.access(0, ("swap", self.word, "a", "b"))), in_kinds((False, 1)))
        self.assertEqual(self.memory.trail(self.word), [first])
        self.assertEqual(self.memory.access(1, ("swap", 0, 1, 2)), (False, 2))
        self.assertEqual(self.memory.peek(0), 0)

    def test_swap_asks_for_the_present_value_not_for_the_lasting_one(self):
        first = self.layout.record(0)
        self.memory.access(0, ("write", self.word, 5))
        self.assertEqual(self.memory.access(0, ("swap", self.word, first, 6))[0], False)
        self.assertEqual(self.memory.access(0, ("swap", self.word, 5, 6))[0], True)

    def test_swap_succeeds_for_equal_tuples(self):
        self.memory.access(0, ("write", self.word, (1, ("a", None), ())))
        self.assertEqual(self.memory.access(0, ("swap", self.word, (1, ("a", None), ()), 5)), (True, 2))

    def test_swap_tells_every_two_values_apart(self):
        values = VALUES + (1, (True,), (0,), (False,), (1, 2), (2, 1), ((1,),), "None", -1)
        for at, present in enumerate(values):
            for beside, old in enumerate(values):
                memory = Memory(self.layout)
                memory.access(0, ("write", self.word, present))
                self.assertIs(memory.access(0, ("swap", self.word, old, 9))[0], at == beside, (present, old))
                self.assertEqual(len(memory.trail(self.word)), 3 if at == beside else 2)

    def test_decision_of_0(self):
        status = self.layout.record(5)
        self.memory.access(0, ("write", status, 0))
        self.assertEqual(in_kinds(self.memory.access(1, ("decide", status, "done"))), in_kinds((True, 2)))
        self.assertEqual(self.memory.trail(status), [None, 0, ("done", 2)])
        self.assertEqual(in_kinds(self.memory.access(0, ("decide", status, "failed"))), in_kinds((False, 3)))
        self.assertEqual(self.memory.trail(status), [None, 0, ("done", 2)])

    def test_decision_in_a_passing_cell(self):
        self.assertEqual(self.memory.access(0, ("decide", 0, "")), (True, 1))
        self.assertEqual(self.memory.peek(0), ("", 1))

    def test_decision_of_something_else(self):
        status = self.layout.record(5)
        for present in (None, False, True, 1, -1, "", "0", (), (0,), ("done", 1)):
            memory = Memory(self.layout)
            memory.access(0, ("write", status, present))
            self.assertEqual(in_kinds(memory.access(0, ("decide", status, "done"))), in_kinds((False, 2)))
            self.assertEqual(in_kinds(memory.peek(status)), in_kinds(present))
            self.assertEqual(len(memory.trail(status)), 2)

    def test_flush_and_fence_give_none_and_change_no_present_value(self):
        self.memory.access(0, ("write", self.word, 5))
        self.assertEqual(self.memory.access(0, ("flush", self.word)), (None, 2))
        self.assertEqual(self.memory.trail(self.word), [self.layout.record(0), 5])
        self.assertEqual(self.memory.access(0, ("fence",)), (None, 3))
        self.assertEqual(self.memory.peek(self.word), 5)

    def test_the_result_is_a_pair_in_a_tuple(self):
        self.assertIsInstance(self.memory.access(0, ("fence",)), tuple)

    def test_deep_values(self):
        deep, other = (), (1,)
        for _ in range(5000):
            deep, other = (deep, 2), (other, 2)
        self.memory.access(0, ("write", self.word, deep))
        self.assertEqual(self.memory.access(0, ("swap", self.word, other, 1)), (False, 2))
        self.assertEqual(self.memory.access(0, ("swap", self.word, deep, 1)), (True, 3))


class Log(unittest.TestCase):
    def test_every_access_has_its_row_and_the_next_number(self):
        memory = a_memory(threads=3)
        word = memory.layout.word(0)
        requests = [
            (2, ("read", 0)),
            (0, ("write", word, (1, None))),
            (1, ("swap", word, "x", "y")),
            (1, ("decide", word, "done")),
            (0, ("flush", word)),
            (2, ("fence",)),
        ]
        for number, (thread, request) in enumerate(requests, 1):
            self.assertEqual(memory.access(thread, request)[1], number)
            self.assertEqual(memory.count, number)
            expected = [(at, *row) for at, row in enumerate(requests[:number], 1)]
            self.assertEqual(memory.log(), expected)

    def test_drifts_cuts_and_looks_are_no_accesses(self):
        memory = a_memory()
        memory.access(0, ("fence",))
        memory.drift(memory.layout.word(0), 1)
        memory.cut([])
        memory.peek(0)
        memory.trail(memory.layout.word(0))
        memory.lasting(memory.layout.word(0))
        self.assertEqual(memory.count, 1)
        self.assertEqual(memory.log(), [(1, 0, ("fence",))])


class Returned(unittest.TestCase):
    def test_a_returned_trail_is_not_changed_later(self):
        memory = a_memory()
        word = memory.layout.word(0)
        first = memory.trail(word)
        memory.access(0, ("write", word, 5))
        second = memory.trail(word)
        memory.cut([9])
        self.assertEqual(first, [memory.layout.record(0)])
        self.assertEqual(second, [memory.layout.record(0), 5])

    def test_a_change_of_a_returned_list_does_not_come_back(self):
        memory = a_memory()
        memory.access(0, ("fence",))
        before = told(memory)
        memory.log().append("x")
        memory.trail(memory.layout.word(0)).append("x")
        memory.trail(memory.layout.word(0)).clear()
        self.assertEqual(told(memory), before)

    def test_a_returned_log_is_not_changed_later(self):
        memory = a_memory()
        empty = memory.log()
        memory.access(0, ("fence",))
        one = memory.log()
        memory.access(1, ("read", 0))
        self.assertEqual(empty, [])
        self.assertEqual(one, [(1, 0, ("fence",))])


class Refusals(unittest.TestCase):
    """Every refusal is tried on a memory with a trail, notes of both threads and a passing value."""

    def setUp(self):
        self.memory, self.twin = self.made(), self.made()
        self.layout = self.memory.layout

    def made(self):
        memory = a_memory(threads=2, words=2, records=6)
        word, slot = memory.layout.word(0), memory.layout.call_slot(1)
        for thread, request in (
            (0, ("write", 0, 3)),
            (0, ("write", word, 0)),
            (0, ("flush", word)),
            (1, ("write", word, 0)),
            (1, ("write", slot, "x")),
            (1, ("flush", word)),
            (1, ("flush", slot)),
            (0, ("write", word, 0)),
        ):
            memory.access(thread, request)
        return memory

    def refuse(self, thread, request):
        with self.assertRaises(NotValid, msg=(thread, request)):
            self.memory.access(thread, request)
        self.assertEqual(told(self.memory), told(self.twin))

    def tearDown(self):
        self.assertEqual(behind_fences(self.memory), behind_fences(self.twin))

    def test_threads_that_do_not_exist(self):
        for thread in (-1, 2, 3, 10 ** 9, None, True, False, "0", (), [0]):
            self.refuse(thread, ("read", 0))
            self.refuse(thread, ("fence",))
            self.refuse(thread, ("write", self.layout.word(0), 5))

    def test_cells_that_do_not_exist(self):
        for cell in (-1, self.layout.cells(), self.layout.cells() + 1, 10 ** 20, None, True, False, "0", (), [0], {}):
            self.refuse(0, ("read", cell))
            self.refuse(0, ("write", cell, 5))
            self.refuse(0, ("swap", cell, 0, 5))
            self.refuse(0, ("decide", cell, "done"))
            self.refuse(0, ("flush", cell))

    def test_the_first_and_the_last_cell_exist(self):
        for memory in (self.memory, self.twin):
            self.assertEqual(memory.access(0, ("read", 0)), (3, 9))
            self.assertEqual(memory.access(1, ("read", self.layout.cells() - 1)), (None, 10))

    def test_flush_of_a_passing_cell(self):
        for cell in (self.layout.epoch(), self.layout.epoch_slot(0), self.layout.epoch_slot(1)):
            self.refuse(0, ("flush", cell))

    def test_words_that_are_no_access(self):
        for word in ("", "Read", "reads", "call", "end", "drift", "cut", "look", None, 0, True, b"read", (), [], {}):
            self.refuse(0, (word,))
            self.refuse(0, (word, self.layout.word(0)))
            self.refuse(0, (word, self.layout.word(0), 0))
            self.refuse(0, (word, self.layout.word(0), 0, 1))

    def test_too_many_or_too_few_parts(self):
        word = self.layout.word(0)
        for request in (("read", word), ("write", word, 5), ("swap", word, 0, 5), ("decide", word, "done")):
            self.refuse(0, request[:-1])
            self.refuse(0, request + (None,))
        self.refuse(0, ("flush",))
        self.refuse(0, ("flush", word, word))
        self.refuse(0, ("fence", word))
        self.refuse(0, ("fence", None))
        self.refuse(0, ())

    def test_what_is_no_tuple(self):
        word = self.layout.word(0)
        for request in (None, 0, True, "", "fence", "read", [], ["fence"], ["read", word], {"fence": 1}, b"fence"):
            self.refuse(0, request)

    def test_values_that_a_cell_cannot_hold(self):
        word = self.layout.word(0)
        for value in NO_VALUES:
            self.refuse(0, ("write", word, value))
            self.refuse(0, ("write", 0, value))
            self.refuse(0, ("swap", word, 0, value))
            self.refuse(0, ("swap", word, value, 5))
            self.refuse(0, ("swap", word, "not this one", value))

    def test_a_decision_for_what_is_no_string(self):
        for word in (None, 0, 1, True, b"done", ("done",), ["done"]):
            self.refuse(0, ("decide", self.layout.word(0), word))

    def test_looks_at_cells_that_do_not_exist(self):
        for cell in (-1, self.layout.cells(), 10 ** 20, None, True, False, "0", (), [0]):
            for look in (self.memory.peek, self.memory.lasting, self.memory.trail):
                with self.assertRaises(NotValid):
                    look(cell)
        self.assertEqual(told(self.memory), told(self.twin))

    def test_a_passing_cell_has_no_trail(self):
        for cell in (self.layout.epoch(), self.layout.epoch_slot(0), self.layout.epoch_slot(1)):
            for look in (self.memory.lasting, self.memory.trail):
                with self.assertRaises(NotValid):
                    look(cell)
            self.memory.peek(cell)
        self.assertEqual(told(self.memory), told(self.twin))

    def test_a_refused_request_is_not_changed(self):
        request, value = ["read", 0], [1, [2]]
        self.refuse(0, request)
        self.refuse(0, ("write", 0, value))
        self.assertEqual((request, value), (["read", 0], [1, [2]]))


if __name__ == "__main__":
    unittest.main()
