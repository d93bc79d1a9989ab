"""Points [19] and [23]: epochs of several threads in drawn orders, and the cells that are not free yet."""

import random
import unittest

from driftkept.epochs import Entering, Leaving, Store, divided
from driftkept.machines import Stack
from driftkept.memory import Layout, Memory
from support import Pausing


class Play:
    """Threads that enter, take cells out and leave, checked behind every access."""

    def __init__(self, seed, threads):
        self.draw = random.Random(seed)
        self.memory = Memory(Layout(threads, 1, 60))
        self.layout = self.memory.layout
        cells = [self.layout.record(index) for index in range(1, 60)]
        self.stores = [Store(self.layout, thread, divided(self.layout, cells, thread)) for thread in range(threads)]
        self.shown = [[] for _ in range(threads)]
        self.stacks = [None] * threads
        self.parts = [None] * threads
        # The calls that go on, by thread: each is a number of its own.
        self.calls = [None] * threads
        self.many = 0
        # For each cell that was taken out the calls that could come to it,
        # first those that went on then, and then those that went on with one of them.
        self.first = {}
        self.second = {}
        self.freed = 0

    def step(self, thread):
        stack = self.stacks[thread]
        if stack is None or stack.ended():
            self.go_on(thread)
            stack = self.stacks[thread]
        stack.step(self.memory, thread)
        if self.parts[thread] == "enter" and stack.ended():
            self.calls[thread] = self.many
            self.many += 1
        if self.memory.peek(self.layout.epoch_slot(thread)) is None:
            self.calls[thread] = None
        self.spread()

    def go_on(self, thread):
        """Begin the next part of what a thread does: it enters, pauses, and leaves."""
        part = {None: "enter", "enter": "pause", "pause": "leave", "leave": "enter"}[self.parts[thread]]
        if part == "enter":
            machine = Entering(self.stores[thread])
        elif part == "pause":
            machine = Pausing(self.draw.randrange(1, 6))
        else:
            self.change(thread)
            machine = Leaving(self.stores[thread])
        self.parts[thread] = part
        self.stacks[thread] = Stack(machine)

    def change(self, thread):
        """Show new cells, and take those out that were shown before, as a call does."""
        if self.draw.random() < 0.2:
            return
        taken = self.stores[thread].take(self.draw.randrange(1, 4))
        if taken is None:
            return
        self.stores[thread].take_out(self.shown[thread])
        for cell in self.shown[thread]:
            self.first[cell] = {call for call in self.calls if call is not None}
            self.second[cell] = set()
        for cell in taken:
            self.first.pop(cell, None)
        self.shown[thread] = taken

    def spread(self):
        going = {call for call in self.calls if call is not None}
        for cell, calls in self.first.items():
            if calls & going:
                self.second[cell] |= going

    def fault(self):
        epoch = self.memory.peek(self.layout.epoch())
        going = {call for call in self.calls if call is not None}
        for thread, call in enumerate(self.calls):
            slot = self.memory.peek(self.layout.epoch_slot(thread))
            if call is not None and not slot <= epoch <= slot + 1:
                return "epoch"
        for store in self.stores:
            for cell in store.free_cells():
                if cell in self.first and (self.first[cell] | self.second[cell]) & going:
                    return "cell"
        return self.lost()

    def lost(self):
        """Each cell is shown, free or waiting in exactly one place."""
        found = [cell for cells in self.shown for cell in cells]
        for store in self.stores:
            found += store.free_cells()
            found += [cell for stamp, cells in store.waiting() for cell in cells]
        return "" if sorted(found) == [self.layout.record(index) for index in range(1, 60)] else "lost"


def play(seed, threads, accesses=500):
    """Play a drawn order; the first fault and the epoch at the end."""
    game = Play(seed, threads)
    thread = 0
    # Some threads go on in long rows, others stand still for long in a call.
    patience = game.draw.choice([0.1, 0.3, 0.9])
    for _ in range(accesses):
        if game.draw.random() < patience:
            thread = game.draw.randrange(threads)
        game.step(thread)
        fault = game.fault()
        if fault:
            return fault, game
    return "", game


class Drawn(unittest.TestCase):
    def check(self, threads, seeds):
        epochs = 0
        for seed in range(seeds):
            fault, game = play(seed, threads)
            self.assertEqual(fault, "", (threads, seed))
            epochs += game.memory.peek(game.layout.epoch())
        self.assertGreater(epochs, 10 * seeds)

    def test_one_thread(self):
        self.check(1, 5)

    def test_two_threads(self):
        self.check(2, 40)

    def test_three_threads(self):
        self.check(3, 60)


class LateMark(unittest.TestCase):
    """A call that begins while a helper of an older time still goes on keeps a cell from being free."""

    def setUp(self):
        self.memory = Memory(Layout(3, 1, 30))
        self.stores = [Store(self.memory.layout, thread, []) for thread in range(3)]

    def whole(self, thread, machine):
        stack = Stack(machine(self.stores[thread]))
        while not stack.ended():
            stack.step(self.memory, thread)

    def enter(self, thread):
        self.whole(thread, Entering)

    def leave(self, thread):
        self.whole(thread, Leaving)

    def pass_by(self, calls):
        for _ in range(calls):
            self.enter(0)
            self.leave(0)

    def test_the_cell_is_free_when_both_calls_have_left(self):
        self.enter(1)
        self.enter(0)
        self.stores[0].take_out([20])
        self.leave(0)
        self.pass_by(9)
        self.assertEqual(self.memory.peek(self.memory.layout.epoch()), 1)
        self.enter(2)
        self.leave(1)
        self.pass_by(9)
        self.assertEqual(self.memory.peek(self.memory.layout.epoch()), 2)
        self.assertEqual(self.stores[0].free_cells(), [])
        self.leave(2)
        self.pass_by(1)
        self.assertEqual(self.stores[0].free_cells(), [20])


if __name__ == "__main__":
    unittest.main()
