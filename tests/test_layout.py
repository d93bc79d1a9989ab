"""Point [6]: the layout, and the values of a new memory."""

import unittest

from driftkept.errors import NotValid
from driftkept.memory import Layout, Memory, is_mark
from support import in_kinds

NO_CELLS = (-1, -2, None, True, False, "0", "", (), (1,), [], [1], {}, 10 ** 20, -10 ** 20)


def all_cells(layout):
    """The cells of a layout, by its own methods, in the order of the document."""
    cells = [layout.epoch()]
    cells += [layout.epoch_slot(thread) for thread in range(layout.threads)]
    cells += [layout.call_slot(thread) for thread in range(layout.threads)]
    cells += [layout.word(index) for index in range(layout.words)]
    cells += [layout.record(index) for index in range(layout.records)]
    return cells


def layouts():
    return [
        Layout(threads, words, records)
        for threads in (1, 2, 3)
        for words in (1, 2, 3, 4)
        for records in (4, 5, 60, 200)
    ]


class Limits(unittest.TestCase):
    def test_the_least_and_the_greatest_numbers(self):
        for threads in (1, 3):
            for words in (1, 4):
                for records in (4, 200):
                    layout = Layout(threads, words, records)
                    self.assertEqual((layout.threads, layout.words, layout.records), (threads, words, records))

    def test_other_numbers_are_refused(self):
        for threads in (-1, 0, 4, 10 ** 9):
            with self.assertRaises(NotValid):
                Layout(threads, 1, 4)
        for words in (-1, 0, 5, 10 ** 9):
            with self.assertRaises(NotValid):
                Layout(1, words, 4)
        for records in (-4, 0, 3, 201, 10 ** 9):
            with self.assertRaises(NotValid):
                Layout(1, 1, records)

    def test_true_is_no_number_of_threads_or_words(self):
        with self.assertRaises(NotValid):
            Layout(True, 1, 4)
        with self.assertRaises(NotValid):
            Layout(1, True, 4)


class Cells(unittest.TestCase):
    def test_the_cells_follow_each_other_from_0(self):
        for layout in layouts():
            self.assertEqual(all_cells(layout), list(range(layout.cells())))
            many = 1 + 2 * layout.threads + layout.words + layout.records
            self.assertEqual(layout.cells(), many)

    def test_the_cells_of_one_layout(self):
        layout = Layout(2, 3, 4)
        self.assertEqual(layout.epoch(), 0)
        self.assertEqual([layout.epoch_slot(0), layout.epoch_slot(1)], [1, 2])
        self.assertEqual([layout.call_slot(0), layout.call_slot(1)], [3, 4])
        self.assertEqual([layout.word(0), layout.word(1), layout.word(2)], [5, 6, 7])
        self.assertEqual([layout.record(0), layout.record(3)], [8, 11])
        self.assertEqual(layout.cells(), 12)

    def test_is_record_and_is_lasting_at_every_cell(self):
        for layout in layouts():
            passing = 1 + layout.threads
            others = passing + layout.threads + layout.words
            for cell in range(layout.cells()):
                self.assertIs(layout.is_lasting(cell), cell >= passing)
                self.assertIs(layout.is_record(cell), cell >= others)

    def test_the_first_and_the_last_cell_of_each_kind(self):
        layout = Layout(3, 4, 200)
        for cell in (layout.epoch(), layout.epoch_slot(0), layout.epoch_slot(2)):
            self.assertIs(layout.is_lasting(cell), False)
            self.assertIs(layout.is_record(cell), False)
        for cell in (layout.call_slot(0), layout.call_slot(2), layout.word(0), layout.word(3)):
            self.assertIs(layout.is_lasting(cell), True)
            self.assertIs(layout.is_record(cell), False)
        for cell in (layout.record(0), layout.record(199)):
            self.assertIs(layout.is_lasting(cell), True)
            self.assertIs(layout.is_record(cell), True)

    def test_what_is_no_cell_is_neither(self):
        for layout in (Layout(1, 1, 4), Layout(3, 4, 200)):
            for cell in NO_CELLS + (layout.cells(), layout.cells() + 1):
                self.assertIs(layout.is_record(cell), False)
                self.assertIs(layout.is_lasting(cell), False)


class NewMemory(unittest.TestCase):
    def test_a_new_memory_has_made_no_access(self):
        layout = Layout(2, 3, 5)
        memory = Memory(layout)
        self.assertIs(memory.layout, layout)
        self.assertEqual(memory.count, 0)
        self.assertEqual(memory.log(), [])

    def test_the_values_at_first(self):
        for layout in layouts():
            memory = Memory(layout)
            expected = [0] + [None] * (2 * layout.threads)
            expected += [layout.record(index) for index in range(layout.words)]
            expected += [("items", ())] * layout.words
            expected += [None] * (layout.records - layout.words)
            found = [memory.peek(cell) for cell in range(layout.cells())]
            self.assertEqual([in_kinds(value) for value in found], [in_kinds(value) for value in expected])

    def test_every_trail_has_one_value_at_first(self):
        for layout in layouts():
            memory = Memory(layout)
            for cell in range(layout.call_slot(0), layout.cells()):
                self.assertEqual(memory.trail(cell), [memory.peek(cell)])
                self.assertEqual(memory.lasting(cell), memory.peek(cell))

    def test_memories_of_one_layout_do_not_share_values(self):
        layout = Layout(1, 1, 4)
        one, other = Memory(layout), Memory(layout)
        one.access(0, ("write", layout.word(0), 9))
        one.access(0, ("write", layout.epoch(), 9))
        self.assertEqual(other.trail(layout.word(0)), [layout.record(0)])
        self.assertEqual(other.peek(layout.epoch()), 0)
        self.assertEqual(other.log(), [])


class Marks(unittest.TestCase):
    def test_an_address_is_no_mark(self):
        layout = Layout(1, 4, 4)
        for cell in (0, layout.record(0), layout.record(3)):
            self.assertIs(is_mark(cell), False)

    def test_a_tuple_is_a_mark(self):
        self.assertIs(is_mark((20, 21, 10, 22)), True)


if __name__ == "__main__":
    unittest.main()
