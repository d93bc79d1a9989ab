"""Point [1] over the whole program: worlds in drawn orders, with drifts, cuts and recoveries at any access."""

import copy
import random
import unittest

from driftkept.checks import first_fault, lasting_map, shape_fault
from driftkept.judge import first_fault as history_fault
from driftkept.needed import fault_of
from driftkept.world import World
from support import draw_call, lasting_cells


class Watched:
    """A world of which all that its threads read is kept, and each writing of a record cell is looked at."""

    def __init__(self, seed):
        self.draw = random.Random(seed)
        self.threads = self.draw.randrange(1, 4)
        keys = self.draw.choice([2, 4])
        calls = [[draw_call(self.draw, keys) for _ in range(self.draw.randrange(1, 9))] for _ in range(self.threads)]
        self.world = World(calls, self.draw.choice([20, 24, 32, 60]))
        self.memory = self.world.memory
        self.layout = self.world.layout
        self.cells = lasting_cells(self.memory)
        self.words = [self.layout.word(index) for index in range(4)]
        # For each thread what it has read in its present call.
        self.read = [[] for _ in range(self.threads)]
        self.reused = ""

    def step(self, thread):
        """Pick a thread, and look at the access that it makes."""
        world = self.world
        before = {cell: self.memory.trail(cell) for cell in self.cells}
        recovering, ended = world.recovering(), len(world.history())
        if not world.play([thread])[0]:
            return
        if recovering:
            self.read = [[] for _ in range(self.threads)]
            return
        request = self.memory.log()[-1][2]
        if request[0] == "write" and self.layout.is_record(request[1]) and self.is_reached(thread, request[1], before):
            self.reused = "the cell %d is written" % request[1]
        if request[0] == "read":
            self.read[thread].append((request[1], self.memory.peek(request[1])))
        if request == ("write", self.layout.epoch_slot(thread), None):
            self.read[thread] = []

    def is_reached(self, writer, cell, trails):
        """True if another thread or the lasting medium can come to a record cell."""
        known = self.lasting_cells_reached(trails)
        for thread in range(self.threads):
            if thread != writer:
                known |= self.known_to(thread, trails)
        return cell in known

    def is_done(self, status, trails):
        return any(isinstance(value, tuple) and value[:1] == ("done",) for value in trails[status])

    def mark_cells(self, mark, trails):
        """What the mark of a deed leads to; the new address only if the deed is done."""
        return {mark[1], mark[3] if self.is_done(mark[1], trails) else mark[2]}

    def known_to(self, thread, trails):
        """The record cells to which a thread in a call can come, by what it has read in it."""
        known = set()
        for cell, value in self.read[thread]:
            if cell in self.words:
                known |= {value} if isinstance(value, int) else self.mark_cells(value, trails) | {value[0]}
            elif isinstance(value, tuple) and value[:1] == ("deed",) and self.layout.is_record(cell):
                known |= {cell, value[1]}
        return known

    def lasting_cells_reached(self, trails):
        """The record cells to which a recovery can come, by any value that may last."""
        known = set()
        for word in self.words:
            for value in trails[word]:
                known |= {value} if isinstance(value, int) else self.mark_cells(value, trails)
        for thread in range(self.threads):
            for slot in trails[self.layout.call_slot(thread)]:
                if isinstance(slot, tuple) and slot[0] == "deed":
                    known |= self.deed_cells(thread, slot, trails)
        return known

    def deed_cells(self, thread, slot, trails):
        known = {slot[2]}
        for deed in trails[slot[2]]:
            if isinstance(deed, tuple) and deed[0] == "deed" and deed[3:5] == (thread, slot[1]):
                known.add(deed[1])
                if self.is_done(deed[1], trails):
                    known |= {new for cell, old, new in deed[2]}
        return known

    def fault(self):
        world = self.world
        if self.reused:
            return self.reused
        lasting_map(self.memory)
        if world.recovering():
            return shape_fault(self.memory)
        return first_fault(self.memory, world.stores) or history_fault(world.history())[0] or fault_of(world)

    def cut(self):
        many = len(self.cells)
        choices = self.draw.choice([[], [10 ** 9] * many, [self.draw.randrange(4) for _ in range(many)]])
        self.world.play([("cut", choices)])

    def end_alone(self):
        """Whether a thread that is picked alone ends its call, wherever the others stand."""
        world = copy.deepcopy(self.world)
        thread = self.draw.randrange(self.threads)
        ended = self.ended(world, thread)
        for _ in range(600):
            if self.ended(world, thread) > ended or world.idle(thread):
                return True
            world.play([thread])
        return False

    def ended(self, world, thread):
        return len([row for row in world.history() if row[0] == thread and row[6] is not None])


def play(seed, acts=250):
    """Play a drawn world; the first fault, and the world at its end."""
    watched = Watched(seed)
    draw, world = watched.draw, watched.world
    patience, drifts = draw.choice([0.05, 0.3, 0.8]), draw.choice([0, 0.1, 0.5])
    cuts = draw.choice([0, 0.01, 0.05])
    thread = 0
    for _ in range(acts):
        if draw.random() < patience:
            thread = draw.randrange(watched.threads)
        watched.step(thread)
        if draw.random() < drifts:
            world.play([("drift", draw.choice(watched.cells), draw.randrange(4))])
        fault = watched.fault()
        if fault:
            return fault, world
        if draw.random() < 0.01 and not watched.end_alone():
            return "does not end", world
        if draw.random() < cuts:
            watched.cut()
    if not world.settle(5000):
        return "does not settle", world
    return watched.fault(), world


class Drawn(unittest.TestCase):
    def test_drawn_worlds(self):
        answers, kinds = [], {}
        for seed in range(250):
            fault, world = play(seed)
            self.assertEqual(fault, "", seed)
            for row in world.history():
                answers.append(row[3])
                kinds[row[2][0]] = kinds.get(row[2][0], 0) + 1
        # All that can happen has happened often.
        self.assertGreater(answers.count("undone"), 50)
        self.assertGreater(answers.count("full"), 5)
        self.assertGreater(min(kinds.values()), 50)
        self.assertEqual(len(kinds), 6)

    def test_the_same_acts_are_the_same_play(self):
        one, other = play(7)[1], play(7)[1]
        self.assertEqual(one.memory.log(), other.memory.log())
        self.assertEqual(one.history(), other.history())


class Thorough(unittest.TestCase):
    """Two or three calls that meet, and a cut at each access."""

    def recover(self, world, thread=0):
        for _ in range(100):
            if not world.recovering():
                return
            world.play([thread])
        self.fail("the recovery does not end")

    def check(self, world):
        self.assertEqual(fault_of(world), "")
        self.assertEqual(first_fault(world.memory, world.stores), "")

    def test_a_cut_at_each_access(self):
        calls = [[("puts", ((0, 5), (1, 6))), ("look", 1)], [("move", 0, 2), ("take", 2)]]
        for first in range(0, 46, 3):
            world = World(calls, 20)
            world.play([0] * first)
            for act in [1] * 60 + [0] * 20:
                world.play([act])
                cut = copy.deepcopy(world)
                cut.play([("cut", [])])
                self.recover(cut, 1)
                self.check(cut)

    def test_cuts_of_recoveries_at_each_access(self):
        calls = [[("puts", ((0, 5), (1, 6)))], [("puts", ((1, 7), (2, 8)))], [("look", 1)]]
        for first in range(20, 32, 2):
            world = World(calls, 24)
            world.play([0] * first + [1] * 34 + [2] * 4 + [("cut", [])])
            expected = None
            while world.recovering():
                for choices in ([], [9] * 40, [0, 0, 0, 9, 0, 9]):
                    cut = copy.deepcopy(world)
                    cut.play([("cut", choices)])
                    self.recover(cut)
                    self.check(cut)
                    rows = [row[:6] for row in cut.history()]
                    self.assertEqual(rows, expected or rows)
                    expected = rows
                world.play([0])

    def test_threads_that_stop_for_ever(self):
        # Thread 0 stands at each access of its change, and the others go on without it.
        calls = [[("puts", ((0, 5), (1, 6), (2, 7)))], [("move", 0, 1), ("look", 1)], [("take", 2), ("put", 1, 9)]]
        for first in range(40):
            world = World(calls)
            world.play([0] * first + [1, 2] * 200)
            self.assertTrue(world.idle(1) and world.idle(2), first)
            self.check(world)


if __name__ == "__main__":
    unittest.main()
