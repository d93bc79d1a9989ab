"""Points [46] to [49]: the checker."""

import copy
import random
import unittest

from driftkept.checks import first_fault, lasting_map, shape_fault, shown_map
from driftkept.deeds import deed_record
from driftkept.epochs import Store, divided
from driftkept.errors import Broken
from driftkept.memory import Layout, Memory
from driftkept.recovery import Recovering
from driftkept.world import World
from support import draw_call, lasting_cells, run, told


def items(*pairs):
    return ("items", pairs)


class Checks(unittest.TestCase):
    """A memory of two threads with their stores."""

    def setUp(self):
        self.layout = Layout(2, 4, 20)
        self.memory = Memory(self.layout)
        cells = [self.layout.record(index) for index in range(4, 20)]
        self.stores = [Store(self.layout, thread, divided(self.layout, cells, thread)) for thread in range(2)]

    def record(self, index):
        return self.layout.record(index)

    def word(self, index):
        return self.layout.word(index)

    def write(self, cell, value):
        self.memory.access(0, ("write", cell, value))

    def put(self, cell, value):
        """Give a cell a value that lasts."""
        self.write(cell, value)
        self.memory.drift(cell, 9)

    def mark(self, word, status, old, new):
        self.write(self.word(word), (self.record(19), self.record(status), self.record(old), self.record(new)))

    def enter(self, epoch=0):
        self.write(self.layout.epoch_slot(1), epoch)

    def looks(self):
        """What can be seen of the memory and the stores."""
        return (told(self.memory), [(store.free_cells(), store.waiting()) for store in self.stores])

    def check(self, fault, shape=None):
        shape = shape if shape is not None else fault if fault in ("word", "record", "twice") else ""
        before = self.looks()
        self.assertEqual(first_fault(self.memory, self.stores), fault)
        self.assertEqual(shape_fault(self.memory), shape)
        if shape:
            with self.assertRaises(Broken):
                shown_map(self.memory)
        else:
            self.assertIsInstance(shown_map(self.memory), dict)
        self.assertEqual(self.looks(), before)


class Shapes(Checks):
    def test_no_fault(self):
        self.check("")
        self.enter()
        self.check("")

    def test_a_word_that_shows_no_record_cell(self):
        for value in (None, True, 0, -1, "8", self.layout.word(0), self.layout.cells(), 10 ** 9):
            for index in range(4):
                self.setUp()
                self.write(self.word(index), value)
                self.check("word")
                self.enter()
                self.check("word")

    def test_a_mark_that_shows_no_record_cell(self):
        for status, parts in ((0, (0, 9)), (("failed", 3), (None, 9)), (("done", 3), (9, 0)), (("done", 3), (9, ()))):
            self.setUp()
            self.put(self.record(18), status)
            self.write(self.word(1), (self.record(19), self.record(18)) + parts)
            self.check("word")

    def test_a_tuple_that_is_no_mark(self):
        for value in ((), (1,), (1, 2, 3), (self.record(19), self.record(18), self.record(5)), items(),
                      (self.record(19), 10 ** 9, self.record(4), self.record(5)),
                      (self.record(19), None, self.record(4), self.record(5))):
            self.setUp()
            self.write(self.word(2), value)
            self.check("word")

    def test_what_is_no_record(self):
        for value in (None, 0, ("done", 3), ("items",), ("items", ((3, "5"),)), ("deed", 3), items((1, 5)), True,
                      items((4, 1), (0, 1)), items((0, 1), (0, 2)), items((0, True))):
            self.setUp()
            self.write(self.record(0), value)
            self.check("record")
            self.enter()
            self.check("record")

    def test_a_record_of_another_bucket(self):
        for bucket in range(4):
            for key in range(4):
                self.setUp()
                self.write(self.record(bucket), items((key, 5)))
                self.check("" if key == bucket else "record")

    def test_the_record_that_a_mark_shows(self):
        for status, fault in ((0, ""), (("failed", 3), ""), (("done", 3), "record")):
            self.setUp()
            self.enter()
            self.put(self.record(18), status)
            self.write(self.record(4), items((1, 5)))
            self.mark(0, 18, 0, 4)
            self.check(fault)
            self.write(self.record(4), items((0, 5)))
            self.write(self.record(0), items((1, 5)))
            self.check("" if fault else "record")

    def test_two_words_that_show_the_same_cell(self):
        for one, other in ((0, 1), (0, 3), (2, 3)):
            self.setUp()
            self.write(self.word(one), self.record(other))
            self.check("twice")
            self.enter()
            self.check("twice")

    def test_a_word_and_a_mark_that_show_the_same_cell(self):
        for status, fault in ((0, ""), (("done", 3), "twice")):
            self.setUp()
            self.enter()
            self.put(self.record(18), status)
            self.mark(0, 18, 0, 2)
            self.check(fault)

    def test_the_order(self):
        # Two words show a cell that holds no record of the second one, and a third one shows no cell.
        self.write(self.record(1), items((1, 5)))
        self.write(self.word(0), self.record(1))
        self.write(self.word(3), None)
        self.check("word")
        self.write(self.word(3), self.record(3))
        self.check("record")
        self.write(self.record(1), items())
        self.check("twice")
        self.write(self.word(0), self.record(0))
        self.check("")

    def test_fewer_words(self):
        memory = Memory(Layout(1, 2, 6))
        stores = [Store(memory.layout, 0, [memory.layout.record(index) for index in range(2, 6)])]
        self.assertEqual((first_fault(memory, stores), shape_fault(memory), shown_map(memory)), ("", "", {}))
        memory.access(0, ("write", memory.layout.word(1), memory.layout.record(0)))
        self.assertEqual((first_fault(memory, stores), shape_fault(memory)), ("twice", "twice"))


class Quiet(Checks):
    """Faults that are none while an epoch slot holds an epoch."""

    def check_quiet(self, fault):
        self.check(fault)
        for epoch in (0, 1, 7):
            self.enter(epoch)
            self.check("")
        self.enter(None)
        self.check(fault)

    def test_a_mark(self):
        for status in (0, ("failed", 3), ("done", 3)):
            self.setUp()
            self.write(self.record(4), items((0, 5)))
            self.put(self.record(18), status)
            self.mark(0, 18, 0, 4)
            self.check_quiet("mark")

    def test_a_mark_and_a_lost_cell(self):
        self.mark(0, 18, 0, 4)
        self.stores[0].take(1)
        self.check_quiet("mark")

    def test_a_cell_in_no_store(self):
        for store in self.stores:
            cells = store.take(1)
            self.check_quiet("lost")
            store.give_back(cells)
            self.check("")

    def test_no_stores(self):
        self.stores = []
        self.check_quiet("lost")

    def test_a_word_that_has_left_its_cell(self):
        self.write(self.word(1), self.record(4))
        self.write(self.record(4), items())
        # The cell 1 is in no store now; that the cell 4 is shown and free as well is no such fault.
        self.check_quiet("lost")
        self.stores[1].take_out([self.record(1)])
        self.check("")

    def test_a_cell_that_waits(self):
        cells = self.stores[0].take(2)
        self.stores[0].take_out(cells[:1])
        self.check_quiet("lost")
        self.stores[0].take_out(cells[1:])
        self.check("")

    def test_a_cell_in_two_stores(self):
        self.stores[1].give_back([self.record(4)])
        self.check_quiet("lost")
        self.setUp()
        self.stores[1].take_out([self.record(4)])
        self.check_quiet("lost")
        self.setUp()
        self.stores[1].take_out(self.stores[0].take(1))
        self.check("")

    def test_cells_that_waited_with_a_stamp(self):
        world = World([[("put", 0, value) for value in range(5)], [("look", 0)]], 20)
        world.settle(500)
        self.assertTrue(any(store.waiting() for store in world.stores))
        self.assertEqual(first_fault(world.memory, world.stores), "")
        self.assertEqual(first_fault(world.memory, world.stores[:1]), "lost")
        self.assertEqual(first_fault(world.memory, list(reversed(world.stores))), "")

    def test_each_epoch_slot(self):
        for thread in range(2):
            self.setUp()
            self.stores[0].take(1)
            self.write(self.layout.epoch_slot(thread), 3)
            self.check("")


class Maps(Checks):
    def test_shown_map(self):
        self.assertEqual(shown_map(self.memory), {})
        self.write(self.record(0), items((-4, 1), (0, 2), (8, 3)))
        self.write(self.record(3), items((-1, 0)))
        self.assertEqual(shown_map(self.memory), {-4: 1, 0: 2, 8: 3, -1: 0})
        self.write(self.record(4), items((4, 9)))
        self.write(self.word(0), self.record(4))
        self.assertEqual(shown_map(self.memory), {4: 9, -1: 0})

    def test_shown_map_while_a_deed_is_under_way(self):
        self.write(self.record(4), items((0, 5)))
        self.mark(0, 18, 0, 4)
        for status, expected in ((0, {}), (("failed", 3), {}), (("done", 3), {0: 5})):
            self.write(self.record(18), status)
            self.assertEqual(shown_map(self.memory), expected)

    def test_shown_map_with_a_mark_or_a_lost_cell(self):
        self.put(self.record(18), 0)
        self.mark(0, 18, 0, 4)
        self.stores[0].take(1)
        self.assertEqual(shown_map(self.memory), {})

    def test_new_dicts_each_time(self):
        for function in (shown_map, lasting_map):
            function(self.memory)[3] = 4
            self.assertEqual(function(self.memory), {})


class Lasting(Checks):
    def check_map(self, expected):
        before = self.looks()
        self.assertEqual(lasting_map(self.memory), expected)
        self.assertEqual(self.looks(), before)
        memory = copy.deepcopy(self.memory)
        memory.cut([])
        addresses = run(memory, 0, Recovering(self.layout))
        records = [memory.peek(address) for address in addresses]
        self.assertEqual({key: value for record in records for key, value in record[1]}, expected)

    def deed(self, thread, index, status, entries):
        """Put a deed, and the slot that leads to it; entries by indexes."""
        entries = [(self.word(word), self.record(old), self.record(new)) for word, old, new in entries]
        self.put(self.record(index), deed_record(self.record(index + 1), entries, thread, 1, None))
        self.put(self.record(index + 1), status)
        self.put(self.layout.call_slot(thread), ("deed", 1, self.record(index)))

    def test_a_new_memory(self):
        self.check_map({})

    def test_lasting_values_count(self):
        self.put(self.record(0), items((0, 1)))
        self.write(self.record(0), items((0, 2)))
        self.check_map({0: 1})
        self.put(self.record(4), items((0, 3)))
        self.write(self.word(0), self.record(4))
        self.check_map({0: 1})
        self.memory.drift(self.word(0), 1)
        self.check_map({0: 3})

    def test_marks(self):
        self.put(self.record(4), items((0, 5)))
        for status, lasts, expected in ((0, True, {}), (("failed", 3), True, {}), (("done", 3), True, {0: 5}),
                                        (("done", 3), False, {})):
            self.put(self.record(18), 0)
            self.write(self.record(18), status)
            if lasts:
                self.memory.drift(self.record(18), 9)
            self.mark(0, 18, 0, 4)
            self.memory.drift(self.word(0), 9)
            self.check_map(expected)

    def test_deeds_to_which_slots_lead(self):
        self.put(self.record(4), items((0, 5)))
        self.put(self.record(5), items((0, 6)))
        for first, second in ((0, 1), (1, 0)):
            self.deed(first, 10, ("done", 3), [(0, 0, 4)])
            self.deed(second, 12, ("done", 4), [(0, 4, 5)])
            self.check_map({0: 6})
            self.put(self.record(13), 0)
            self.check_map({0: 5})
            self.put(self.layout.call_slot(first), ("undone", 1))
            self.check_map({})

    def test_a_word_that_leads_to_no_record_cell(self):
        for value in (None, True, 0, "8", self.layout.word(0), 10 ** 9, (), (1,), items(),
                      (self.record(19), 10 ** 9, self.record(4), self.record(5)), (self.record(19), 0, 0, 0)):
            self.setUp()
            self.write(self.word(0), value)
            self.assertEqual(lasting_map(self.memory), {})
            self.memory.drift(self.word(0), 1)
            before = self.looks()
            with self.assertRaises(Broken):
                lasting_map(self.memory)
            self.assertEqual(self.looks(), before)

    def test_what_is_no_record_of_its_bucket(self):
        for value in (None, 0, ("done", 3), items((1, 5))):
            self.setUp()
            self.write(self.record(0), value)
            self.assertEqual(lasting_map(self.memory), {})
            with self.assertRaises(Broken):
                shown_map(self.memory)
            self.memory.drift(self.record(0), 1)
            with self.assertRaises(Broken):
                lasting_map(self.memory)

    def test_a_record_that_does_not_last(self):
        self.write(self.record(4), items((0, 5)))
        self.write(self.word(0), self.record(4))
        self.memory.drift(self.word(0), 1)
        self.assertEqual(shown_map(self.memory), {0: 5})
        with self.assertRaises(Broken):
            lasting_map(self.memory)
        self.memory.drift(self.record(4), 1)
        self.assertEqual(lasting_map(self.memory), {0: 5})

    def test_two_words_that_lead_to_the_same_cell(self):
        # This is no record of another bucket, as it is empty.
        self.put(self.word(0), self.record(1))
        self.check_map({})
        self.check("twice")


class Drawn(unittest.TestCase):
    """The lasting map just before a cut without choices is the map that is shown behind the recovery."""

    def test_drawn_worlds(self):
        compared = 0
        for seed in range(40):
            draw = random.Random(seed)
            threads = draw.randrange(1, 4)
            world = World([[draw_call(draw, 3) for _ in range(6)] for _ in range(threads)])
            thread = 0
            for _ in range(300):
                if draw.random() < 0.2:
                    thread = draw.randrange(threads)
                world.play([thread, ("drift", draw.choice(lasting_cells(world.memory)), draw.randrange(3))])
                if draw.random() < 0.02:
                    world.play([("cut", [draw.randrange(3) for _ in range(70)])])
                if draw.random() < 0.1:
                    self.compare(world)
                    compared += 1
        self.assertGreater(compared, 800)

    def compare(self, world):
        before = told(world.memory)
        expected = lasting_map(world.memory)
        self.assertEqual(told(world.memory), before)
        other = copy.deepcopy(world)
        other.play([("cut", [])])
        # What a recovery has done so far does not change it.
        while other.recovering():
            self.assertEqual(lasting_map(other.memory), expected)
            other.play([0])
        self.assertEqual(lasting_map(other.memory), expected)
        self.assertEqual(shown_map(other.memory), expected)
        self.assertEqual(first_fault(other.memory, other.stores), "")

    def test_at_each_access_of_two_calls(self):
        calls = [[("puts", ((0, 5), (1, 6)))], [("move", 0, 2)]]
        for first in range(0, 45, 4):
            world = World(calls)
            world.play([0] * first)
            for _ in range(70):
                self.compare(world)
                world.play([1])


class UnderWay(unittest.TestCase):
    def test_first_fault_at_each_access(self):
        world = World([[("puts", ((0, 5), (1, 6)))], [("move", 0, 2)], [("take", 1)]])
        draw = random.Random(46)
        while not all(world.idle(thread) for thread in range(3)):
            world.play([draw.randrange(3)])
            self.assertEqual(first_fault(world.memory, world.stores), "")

    def test_a_call_that_stops(self):
        # The cells that an open call has taken are told as lost only if it has not entered.
        world = World([[("put", 0, 5)]])
        world.play([0] * 8)
        self.assertEqual(first_fault(world.memory, world.stores), "")
        world.memory.access(0, ("write", world.layout.epoch_slot(0), None))
        self.assertEqual(first_fault(world.memory, world.stores), "lost")


if __name__ == "__main__":
    unittest.main()
