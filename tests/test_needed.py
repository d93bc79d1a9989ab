"""Points [50] to [52]: what is needed."""

import random
import unittest

from driftkept.errors import NotValid
from driftkept.needed import breaking, fault_of
from driftkept.world import World
from support import draw_call

PLACES = range(1, 8)
PUT = ("put", 0, 1)
FAR = 10 ** 6


def behind(calls, acts, without):
    """A world behind these acts, when its recovery has ended."""
    world = World(calls, 60, without)
    world.play(acts)
    while world.recovering():
        world.play([0])
    return world


def with_recovery(calls, acts, without):
    """Acts with a cut behind them, and so many picks that the recovery has ended; and the world."""
    world = World(calls, 60, without)
    world.play(acts + [("cut", [])])
    picks = 0
    while world.recovering():
        world.play([0])
        picks += 1
    return acts + [("cut", [])] + [0] * picks, world


def told_calls(place):
    if place in (3, 6):
        return [[PUT], [("look", 0)]]
    if place == 4:
        return [[PUT, ("move", 0, 1)]]
    if place == 7:
        return [[("put", 0, value) for value in range(1, 15)]]
    return [[PUT]]


def told_lists(place):
    """The lists of acts that the document tells, without the cut."""
    if place in (1, 5):
        return [[0] * 90]
    if place == 2:
        return [[0] * many for many in range(16, 91)]
    if place in (3, 6):
        return [[0] * many + [1] * 90 for many in range(16, 91)]
    if place == 4:
        # One thread: its epoch and its slots are the cells 0 to 2, the words are the next ones.
        return [[0] * many + [("drift", 4, FAR)] for many in range(50, 91)]
    return deed_lists()


def deed_lists():
    """The slot of one thread is the cell 2; it leads to another deed when this is written into it."""
    world = World(told_calls(7), 60, 7)
    world.settle(10 ** 4)
    lists = []
    for number, thread, request in world.memory.log():
        if request[:2] == ("write", 2) and request[2][0] == "deed":
            lists.append([0] * number + [("drift", 2, FAR), ("drift", request[2][2], FAR)])
    return lists


class Breaking(unittest.TestCase):
    def test_places_that_are_refused(self):
        for place in (0, 8, -1, 100, True, False, None, "1", (1,)):
            with self.assertRaises(NotValid):
                breaking(place)

    def test_a_world_that_leaves_out_the_place_has_a_fault(self):
        for place in PLACES:
            calls, acts = breaking(place)
            world = World(calls, 60, place)
            world.play(acts)
            self.assertFalse(world.recovering())
            self.assertIn(fault_of(world), ("history", "memory", "map"), place)

    def test_a_world_that_leaves_nothing_out_has_none(self):
        for place in PLACES:
            calls, acts = breaking(place)
            world = World(calls, 60, 0)
            world.play(acts)
            self.assertEqual(fault_of(world), "", place)
            self.assertEqual(fault_of(behind(calls, acts, 0)), "", place)

    def test_the_calls(self):
        for place in PLACES:
            self.assertEqual(breaking(place)[0], told_calls(place))

    def test_the_kinds_of_what_is_returned(self):
        for place in PLACES:
            found = breaking(place)
            self.assertIsInstance(found, tuple)
            self.assertEqual([part.__class__ for part in found], [list, list])
            self.assertEqual([row.__class__ for row in found[0]], [list] * len(found[0]))

    def test_the_first_list_in_the_told_order_is_taken(self):
        for place in PLACES:
            calls = told_calls(place)
            for acts in told_lists(place):
                whole, world = with_recovery(calls, acts, place)
                if fault_of(world):
                    break
            self.assertNotEqual(fault_of(world), "")
            self.assertEqual(breaking(place), (calls, whole), place)

    def test_how_many_lists_are_told(self):
        self.assertEqual([len(told_lists(place)) for place in PLACES], [1, 75, 75, 41, 1, 75, 14])

    def test_new_lists_each_time(self):
        for place in PLACES:
            calls, acts = breaking(place)
            before = (list(map(list, calls)), list(acts))
            calls[0].append(PUT)
            calls.append([])
            acts.clear()
            self.assertEqual(breaking(place), before)


class Drawn(unittest.TestCase):
    """Worlds that leave a place out, in drawn orders with drifts and cuts."""

    def play(self, seed, without):
        draw = random.Random(seed)
        threads = draw.randrange(1, 4)
        world = World([[draw_call(draw, 2) for _ in range(6)] for _ in range(threads)], 24, without)
        thread = 0
        for _ in range(250):
            if draw.random() < 0.3:
                thread = draw.randrange(threads)
            cell = draw.randrange(world.layout.cells())
            world.play([thread, ("drift", cell, draw.randrange(2))])
            if draw.random() < 0.02:
                world.play([("cut", [draw.randrange(2) for _ in range(40)])])
        # Whatever is broken, all calls end.
        self.assertTrue(world.settle(5000))
        return fault_of(world)

    def test_what_is_left_out_is_missed(self):
        for without in range(8):
            faults = [self.play(seed, without) for seed in range(60)]
            if without == 0:
                self.assertEqual(faults, [""] * 60)
            elif without <= 5:
                # The last two are needed so seldom that drawing does not come to it.
                self.assertGreater(len(faults) - faults.count(""), 0, without)


class Faults(unittest.TestCase):
    def setUp(self):
        self.world = World([[PUT, ("put", 1, 2)], [("look", 0)]])

    def write(self, cell, value):
        """Write into a cell what no call would write there."""
        self.world.memory.access(0, ("write", cell, value))

    def test_none(self):
        self.assertEqual(fault_of(self.world), "")
        for act in [0] * 40 + [1] * 3 + [0] * 9 + [1] * 3:
            self.world.play([act])
            self.assertEqual(fault_of(self.world), "")
        self.assertTrue(self.world.settle(200))
        self.assertEqual(fault_of(self.world), "")

    def test_history(self):
        self.world.play([0] * 40)
        # The look is shown what was never put.
        layout = self.world.layout
        self.write(layout.record(5), ("items", ((0, 9),)))
        self.write(layout.word(0), layout.record(5))
        self.assertEqual(fault_of(self.world), "map")
        self.world.play([1] * 6)
        self.assertEqual(fault_of(self.world), "history")
        # The history is looked at first.
        self.write(layout.word(0), None)
        self.assertEqual(fault_of(self.world), "history")

    def test_memory(self):
        layout = self.world.layout
        for cell, value in ((layout.word(3), None), (layout.record(3), ("items", ((0, 1),))),
                            (layout.word(3), layout.record(2))):
            self.setUp()
            self.world.play([0] * 40)
            self.write(cell, value)
            self.assertEqual(fault_of(self.world), "memory")

    def test_marks_and_lost_cells_are_none(self):
        self.world.settle(200)
        self.world.stores[0].take(2)
        self.assertEqual(fault_of(self.world), "")
        layout = self.world.layout
        old = self.world.memory.peek(layout.word(0))
        self.write(layout.record(58), 0)
        self.write(layout.word(0), (layout.record(59), layout.record(58), old, layout.record(57)))
        self.assertEqual(fault_of(self.world), "")

    def test_map(self):
        layout = self.world.layout
        for pairs in (((0, 1), (4, 1)), ((0, 2),), ()):
            self.setUp()
            self.world.settle(200)
            self.write(self.world.memory.peek(layout.word(0)), ("items", pairs))
            self.assertEqual(fault_of(self.world), "map")
        self.setUp()
        self.write(layout.record(2), ("items", ((2, 0),)))
        self.assertEqual(fault_of(self.world), "map")

    def test_looking_changes_nothing(self):
        self.world.play([0] * 22)
        before = (self.world.memory.log(), self.world.history())
        fault_of(self.world)
        self.assertEqual((self.world.memory.log(), self.world.history()), before)

    def test_what_is_lost_is_a_fault(self):
        # The put has ended, and place 5 does not make its word last.
        world = World([[PUT]], 60, 5)
        self.assertTrue(world.settle(90))
        self.assertEqual(fault_of(world), "")
        world.play([("cut", [])])
        while world.recovering():
            world.play([0])
        self.assertEqual(fault_of(world), "map")


if __name__ == "__main__":
    unittest.main()
