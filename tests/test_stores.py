"""Points [20] and [21]: stores, and how the record cells are divided among the threads."""

import unittest

from driftkept.epochs import Leaving, Store, divided
from driftkept.memory import Layout, Memory
from support import run, told

LAYOUT = Layout(2, 3, 40)


class Taking(unittest.TestCase):
    def test_the_fields(self):
        store = Store(LAYOUT, 1, [30, 20])
        self.assertIs(store.layout, LAYOUT)
        self.assertEqual(store.thread, 1)

    def test_the_free_cells_ascend(self):
        store = Store(LAYOUT, 0, [30, 12, 25, 11])
        self.assertEqual(store.free_cells(), [11, 12, 25, 30])
        self.assertEqual(Store(LAYOUT, 0, []).free_cells(), [])

    def test_the_least_cells_are_taken_ascending(self):
        store = Store(LAYOUT, 0, [30, 12, 25, 11, 40])
        self.assertEqual(store.take(2), [11, 12])
        self.assertEqual(store.free_cells(), [25, 30, 40])
        self.assertEqual(store.take(1), [25])
        self.assertEqual(store.take(2), [30, 40])
        self.assertEqual(store.free_cells(), [])

    def test_none_is_taken(self):
        store = Store(LAYOUT, 0, [12, 11])
        for many in (0, -1):
            self.assertEqual(store.take(many), [])
            self.assertEqual(store.free_cells(), [11, 12])
        self.assertEqual(Store(LAYOUT, 0, []).take(0), [])

    def test_too_few_cells(self):
        store = Store(LAYOUT, 0, [12, 11])
        for many in (3, 4, 900):
            self.assertIsNone(store.take(many))
            self.assertEqual(store.free_cells(), [11, 12])
        self.assertEqual(store.take(2), [11, 12])
        self.assertIsNone(store.take(1))

    def test_what_is_given_back_is_free_again(self):
        store = Store(LAYOUT, 0, [11, 12, 25, 30])
        store.take(3)
        store.give_back([25, 11])
        self.assertEqual(store.free_cells(), [11, 25, 30])
        self.assertEqual(store.take(2), [11, 25])
        store.give_back([])
        self.assertEqual(store.free_cells(), [30])

    def test_what_is_taken_out_waits_without_a_stamp(self):
        store = Store(LAYOUT, 0, [11, 12, 25])
        self.assertEqual(store.waiting(), [])
        store.take(2)
        store.take_out([12, 40])
        self.assertEqual(store.waiting(), [(None, [12, 40])])
        store.take_out([11])
        self.assertEqual(store.waiting(), [(None, [12, 40, 11])])
        self.assertEqual(store.free_cells(), [25])

    def test_nothing_is_taken_out(self):
        store = Store(LAYOUT, 0, [11])
        store.take_out([])
        self.assertEqual(store.waiting(), [])


class Lists(unittest.TestCase):
    """Lists that are passed or returned, and changed afterwards, do not count."""

    def test_the_list_of_the_free_cells(self):
        cells = [30, 12, 11]
        store = Store(LAYOUT, 0, cells)
        self.assertEqual(cells, [30, 12, 11])
        cells.append(13)
        cells[0] = 14
        self.assertEqual(store.free_cells(), [11, 12, 30])
        store.free_cells().clear()
        self.assertEqual(store.free_cells(), [11, 12, 30])
        store.take(2)
        self.assertEqual(cells, [14, 12, 11, 13])

    def test_the_list_that_is_taken(self):
        store = Store(LAYOUT, 0, [11, 12, 30])
        taken = store.take(2)
        taken.append(40)
        self.assertEqual(store.free_cells(), [30])
        store.give_back([11, 12])
        self.assertEqual(taken, [11, 12, 40])

    def test_all_that_is_free_is_taken(self):
        store = Store(LAYOUT, 0, [11, 12])
        taken = store.take(2)
        store.give_back([12])
        self.assertEqual(taken, [11, 12])
        taken.clear()
        self.assertEqual(store.free_cells(), [12])

    def test_the_list_that_is_given_back(self):
        store = Store(LAYOUT, 0, [11, 12, 13])
        back = store.take(2)
        store.give_back(back)
        back.append(40)
        self.assertEqual(store.free_cells(), [11, 12, 13])
        store.take(1)
        self.assertEqual(back, [11, 12, 40])

    def test_the_list_that_is_taken_out(self):
        store = Store(LAYOUT, 0, [])
        out = [25, 11]
        store.take_out(out)
        out.append(40)
        self.assertEqual(store.waiting(), [(None, [25, 11])])
        store.take_out([12])
        self.assertEqual(out, [25, 11, 40])

    def test_the_lists_of_what_waits(self):
        memory = Memory(LAYOUT)
        store = Store(LAYOUT, 0, [])
        store.take_out([25, 11])
        run(memory, 0, Leaving(store))
        store.take_out([30])
        expected = [(0, [25, 11]), (None, [30])]
        first = store.waiting()
        self.assertEqual(first, expected)
        first[0][1].append(40)
        first[1][1].clear()
        first.pop()
        self.assertEqual(store.waiting(), expected)

    def test_a_list_that_was_returned_does_not_change_later(self):
        memory = Memory(LAYOUT)
        store = Store(LAYOUT, 0, [12])
        store.take_out([25])
        waiting, free = store.waiting(), store.free_cells()
        store.take_out([11])
        for _ in range(4):
            run(memory, 0, Leaving(store))
        self.assertEqual((waiting, free), ([(None, [25])], [12]))
        self.assertEqual(store.free_cells(), [11, 12, 25])


class Divided(unittest.TestCase):
    def test_by_the_index_modulo_the_number_of_threads(self):
        for threads in (1, 2, 3):
            layout = Layout(threads, 4, 50)
            cells = [layout.record(index) for index in range(4, 50)]
            for thread in range(threads):
                expected = [layout.record(index) for index in range(4, 50) if index % threads == thread]
                self.assertEqual(divided(layout, cells, thread), expected)

    def test_each_cell_belongs_to_one_thread(self):
        for threads in (1, 2, 3):
            for words in (1, 2, 3, 4):
                layout = Layout(threads, words, 31)
                cells = [layout.record(index) for index in range(31)]
                shares = [divided(layout, cells, thread) for thread in range(threads)]
                self.assertEqual(sorted(sum(shares, [])), cells)
                self.assertTrue(all(layout.record(thread) in share for thread, share in enumerate(shares)))

    def test_some_cells_in_any_order(self):
        layout = Layout(3, 2, 20)
        cells = [layout.record(index) for index in (19, 4, 7, 2, 10, 3, 16)]
        before = list(cells)
        expected = {0: (3,), 1: (4, 7, 10, 16, 19), 2: (2,)}
        for thread, indexes in expected.items():
            self.assertEqual(divided(layout, cells, thread), [layout.record(index) for index in indexes])
        self.assertEqual(cells, before)
        self.assertEqual(divided(layout, [], 0), [])
        self.assertEqual(divided(layout, [layout.record(4)], 0), [])

    def test_the_list_is_a_new_one(self):
        layout = Layout(1, 1, 9)
        cells = [layout.record(3), layout.record(5)]
        divided(layout, cells, 0).append(99)
        self.assertEqual(cells, [layout.record(3), layout.record(5)])

    def test_a_store_makes_no_access(self):
        memory = Memory(LAYOUT)
        before = told(memory)
        store = Store(memory.layout, 0, divided(memory.layout, [20, 21, 22], 0))
        store.take_out(store.take(1))
        store.give_back([30])
        self.assertEqual(told(memory), before)


if __name__ == "__main__":
    unittest.main()
