"""Points [18] to [22]: entering and leaving."""

import unittest

from driftkept.epochs import Entering, Leaving, Store
from driftkept.machines import Stack
from support import a_memory, requests_behind, run, run_on, started, told


class Epochs(unittest.TestCase):
    """A memory with some threads and a store for one of them."""

    def begin(self, threads, thread, free=()):
        self.memory = a_memory(threads=threads, words=1, records=60)
        self.layout = self.memory.layout
        self.epoch = self.layout.epoch()
        self.slots = [self.layout.epoch_slot(other) for other in range(threads)]
        self.thread = thread
        self.store = Store(self.layout, thread, list(free))

    def write(self, cell, value):
        self.memory.access(0, ("write", cell, value))

    def run_from_here(self, machine):
        """The value of a machine that the thread runs alone, and its requests."""
        count = self.memory.count
        value = run(self.memory, self.thread, machine)
        return value, requests_behind(self.memory, count)

    def check_requests(self, machine):
        """Follow a machine to its end; its request is the same until it accepts."""
        while machine.request()[0] != "end":
            before = (told(self.memory), self.store.free_cells(), self.store.waiting())
            request = machine.request()
            self.assertEqual(machine.request(), request)
            self.assertEqual((told(self.memory), self.store.free_cells(), self.store.waiting()), before)
            machine.accept(self.memory.access(self.thread, request))
        self.assertEqual(machine.request(), machine.request())
        return machine.request()

    def wait(self, stamp, cells):
        """Let cells wait with a stamp, as of a call that was left before."""
        epoch, slots = self.memory.peek(self.epoch), [self.memory.peek(slot) for slot in self.slots]
        self.write(self.epoch, stamp)
        for slot in self.slots:
            self.write(slot, stamp - 7)
        self.store.take_out(cells)
        run(self.memory, self.thread, Leaving(self.store))
        self.write(self.epoch, epoch)
        for slot, value in zip(self.slots, slots):
            self.write(slot, value)


class Enter(Epochs):
    def test_alone(self):
        for threads in (1, 2, 3):
            for thread in range(threads):
                for epoch in (0, 1, 57):
                    self.begin(threads, thread)
                    self.write(self.epoch, epoch)
                    value, requests = self.run_from_here(Entering(self.store))
                    slot = self.slots[thread]
                    self.assertEqual(value, epoch)
                    self.assertEqual(requests, [("read", self.epoch), ("write", slot, epoch), ("read", self.epoch)])
                    expected = [epoch if other == thread else None for other in range(threads)]
                    self.assertEqual([self.memory.peek(other) for other in self.slots], expected)
                    self.assertEqual(self.memory.peek(self.epoch), epoch)

    def moved(self, moments):
        """Enter, and let the epoch move on by one behind each of these accesses of the thread."""
        self.begin(2, 1)
        stack = Stack(Entering(self.store))
        made, requests = 0, []
        while not stack.ended():
            stack.step(self.memory, 1)
            made += 1
            requests.append(self.memory.log()[-1][2])
            if made in moments:
                epoch = self.memory.peek(self.epoch)
                self.memory.access(0, ("swap", self.epoch, epoch, epoch + 1))
        return stack.value(), requests

    def test_the_epoch_moves_on_between_the_first_two_accesses(self):
        value, requests = self.moved([1])
        read = ("read", self.epoch)
        writes = [("write", self.slots[1], epoch) for epoch in (0, 1)]
        self.assertEqual(value, 1)
        self.assertEqual(requests, [read, writes[0], read, writes[1], read])
        self.assertEqual(self.memory.peek(self.slots[1]), 1)

    def test_the_epoch_moves_on_between_the_last_two_accesses(self):
        value, requests = self.moved([2])
        read = ("read", self.epoch)
        writes = [("write", self.slots[1], epoch) for epoch in (0, 1)]
        self.assertEqual(value, 1)
        self.assertEqual(requests, [read, writes[0], read, writes[1], read])

    def test_the_epoch_moves_on_several_times(self):
        value, requests = self.moved([2, 3, 6])
        read = ("read", self.epoch)
        writes = [("write", self.slots[1], epoch) for epoch in (0, 1, 2, 3)]
        self.assertEqual(value, 3)
        self.assertEqual(requests, [read, writes[0], read, writes[1], read, writes[2], read, writes[3], read])
        self.assertEqual(self.memory.peek(self.slots[1]), self.memory.peek(self.epoch))

    def test_the_epoch_moves_on_twice_at_once(self):
        self.begin(2, 1)
        stack = started(self.memory, 1, Entering(self.store), 1)
        self.write(self.epoch, 2)
        self.assertEqual(run_on(self.memory, 1, stack), 2)
        self.assertEqual(self.memory.peek(self.slots[1]), 2)

    def test_the_request_is_the_same_until_a_result_is_accepted(self):
        self.begin(2, 1)
        self.write(self.epoch, 6)
        self.assertEqual(self.check_requests(Entering(self.store)), ("end", 6))

    def test_the_store_stays(self):
        self.begin(1, 0, [9, 7])
        self.store.take_out([11])
        run(self.memory, 0, Entering(self.store))
        self.assertEqual((self.store.free_cells(), self.store.waiting()), ([7, 9], [(None, [11])]))


class Leave(Epochs):
    def check(self, requests):
        value, found = self.run_from_here(Leaving(self.store))
        self.assertEqual(found, requests)
        self.assertIsNone(value)
        self.assertIsNone(self.memory.peek(self.slots[self.thread]))

    def read(self):
        return ("read", self.epoch)

    def left(self):
        return ("write", self.slots[self.thread], None)

    def others(self):
        return [("read", slot) for thread, slot in enumerate(self.slots) if thread != self.thread]

    def moved(self, epoch):
        return ("swap", self.epoch, epoch, epoch + 1)

    def test_nothing_is_taken_out_and_nothing_waits(self):
        for threads in (1, 2, 3):
            for thread in range(threads):
                self.begin(threads, thread, [20])
                self.write(self.slots[thread], 0)
                self.check([self.left()])
                self.assertEqual(self.memory.peek(self.epoch), 0)
                self.assertEqual((self.store.free_cells(), self.store.waiting()), ([20], []))

    def test_something_waits_only(self):
        for threads in (1, 2, 3):
            for thread in range(threads):
                self.begin(threads, thread)
                self.write(self.epoch, 8)
                self.wait(7, [20])
                self.write(self.slots[thread], 8)
                self.check([self.left(), self.read(), *self.others(), self.moved(8)])
                self.assertEqual(self.memory.peek(self.epoch), 9)
                self.assertEqual(self.store.waiting(), [(7, [20])])

    def test_something_is_taken_out(self):
        for threads in (1, 2, 3):
            for thread in range(threads):
                self.begin(threads, thread)
                self.write(self.epoch, 8)
                self.write(self.slots[thread], 8)
                self.store.take_out([20, 19])
                self.check([self.read(), self.left(), self.read(), *self.others(), self.moved(8)])
                self.assertEqual(self.memory.peek(self.epoch), 9)
                self.assertEqual(self.store.waiting(), [(8, [20, 19])])
                self.assertEqual(self.store.free_cells(), [])

    def test_the_stamp_is_the_epoch_that_is_read_first(self):
        self.begin(2, 0)
        self.store.take_out([20])
        stack = started(self.memory, 0, Leaving(self.store), 1)
        self.assertEqual(self.store.waiting(), [(0, [20])])
        self.write(self.epoch, 1)
        self.assertIsNone(run_on(self.memory, 0, stack))
        self.assertEqual(self.store.waiting(), [(0, [20])])
        self.assertEqual(self.memory.peek(self.epoch), 2)

    def slots_hold(self, values):
        """Leave with something waiting while the slots of the other threads hold these values."""
        self.begin(3, 1)
        self.write(self.epoch, 8)
        self.wait(5, [20])
        self.wait(7, [30])
        self.assertEqual(self.store.free_cells(), [])
        for slot, value in zip((self.slots[0], self.slots[2]), values):
            self.write(slot, value)
        self.write(self.slots[1], 8)

    def test_slots_that_hold_none_or_the_epoch(self):
        for values in ((None, None), (8, None), (None, 8), (8, 8)):
            self.slots_hold(values)
            self.check([self.left(), self.read(), *self.others(), self.moved(8)])
            self.assertEqual(self.memory.peek(self.epoch), 9)

    def test_the_first_slot_holds_another_number(self):
        for other in (7, 9, 0, 1):
            for last in (None, 8, 7):
                self.slots_hold((other, last))
                self.check([self.left(), self.read(), self.others()[0]])
                self.assertEqual(self.memory.peek(self.epoch), 8)
                # The known epoch is 8, so what has the stamp 5 is free.
                self.assertEqual((self.store.free_cells(), self.store.waiting()), ([20], [(7, [30])]))

    def test_the_second_slot_holds_another_number(self):
        for first in (None, 8):
            self.slots_hold((first, 7))
            self.check([self.left(), self.read(), *self.others()])
            self.assertEqual(self.memory.peek(self.epoch), 8)
            self.assertEqual((self.store.free_cells(), self.store.waiting()), ([20], [(7, [30])]))

    def test_its_own_slot_is_not_asked(self):
        self.begin(1, 0)
        self.write(self.epoch, 8)
        self.wait(7, [20])
        self.write(self.slots[0], 7)
        self.check([self.left(), self.read(), self.moved(8)])

    def test_true_and_false_are_no_epochs(self):
        self.begin(2, 0)
        self.write(self.epoch, 1)
        self.store.take_out([20])
        self.write(self.slots[1], True)
        self.check([self.read(), self.left(), self.read(), *self.others()])

    def stamps(self, epoch):
        """Leave at this epoch while three calls of this thread wait; the stack before its swap."""
        self.begin(2, 0, [41])
        self.write(self.epoch, 9)
        for stamp, cells in ((5, [31, 30]), (6, [20]), (7, [25, 10])):
            self.wait(stamp, cells)
        self.write(self.epoch, epoch)
        return started(self.memory, 0, Leaving(self.store), 3)

    def test_stamps_of_the_known_epoch_minus_3_and_one_more(self):
        expected = {
            7: ([41], [(5, [31, 30]), (6, [20]), (7, [25, 10])]),
            8: ([30, 31, 41], [(6, [20]), (7, [25, 10])]),
            9: ([20, 30, 31, 41], [(7, [25, 10])]),
            10: ([10, 20, 25, 30, 31, 41], []),
            50: ([10, 20, 25, 30, 31, 41], []),
        }
        for known, (free, waiting) in expected.items():
            stack = self.stamps(known - 1)
            self.assertEqual(self.store.free_cells(), [41])
            self.assertIsNone(run_on(self.memory, 0, stack))
            self.assertEqual(self.memory.log()[-1][2], self.moved(known - 1))
            self.assertEqual((self.store.free_cells(), self.store.waiting()), (free, waiting))

    def test_a_swap_of_the_epoch_that_does_not_succeed(self):
        for epoch, free, rows in ((7, [41], 3), (8, [30, 31, 41], 2), (9, [20, 30, 31, 41], 1)):
            stack = self.stamps(epoch)
            # The epoch is much further, but what was read of it counts.
            self.write(self.epoch, epoch + 20)
            self.assertIsNone(run_on(self.memory, 0, stack))
            self.assertEqual(self.memory.log()[-1][2], self.moved(epoch))
            self.assertEqual(self.memory.peek(self.epoch), epoch + 20)
            self.assertEqual(self.store.free_cells(), free)
            self.assertEqual(len(self.store.waiting()), rows)

    def test_several_calls_have_a_row_each(self):
        self.begin(1, 0)
        cells = list(range(10, 26))
        rows = []
        for call in range(8):
            out = [cells.pop(), cells.pop()]
            self.store.take_out(out[:1])
            self.store.take_out(out[1:])
            self.assertEqual(self.store.waiting(), [*rows, (None, out)])
            self.run_from_here(Leaving(self.store))
            rows = [row for row in [*rows, (call, out)] if row[0] > call + 1 - 3]
            self.assertEqual(self.store.waiting(), rows)
        self.assertEqual(len(rows), 2)
        self.assertEqual(len(self.store.free_cells()), 12)

    def test_calls_with_the_same_stamp_have_a_row_each(self):
        self.begin(2, 1)
        self.write(self.slots[0], 5)
        for cells in ([20], [12, 11], [30]):
            self.store.take_out(cells)
            self.run_from_here(Leaving(self.store))
        self.assertEqual(self.store.waiting(), [(0, [20]), (0, [12, 11]), (0, [30])])
        self.write(self.epoch, 3)
        self.run_from_here(Leaving(self.store))
        self.assertEqual((self.store.free_cells(), self.store.waiting()), ([11, 12, 20, 30], []))

    def test_the_request_is_the_same_until_a_result_is_accepted(self):
        self.begin(3, 1)
        self.assertEqual(self.check_requests(Leaving(self.store)), ("end", None))
        self.store.take_out([20])
        self.assertEqual(self.check_requests(Leaving(self.store)), ("end", None))
        self.write(self.slots[0], 9)
        self.assertEqual(self.check_requests(Leaving(self.store)), ("end", None))


if __name__ == "__main__":
    unittest.main()
