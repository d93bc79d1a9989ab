"""Points [39] to [42]: the world."""

import copy
import random
import unittest

from driftkept.errors import NotValid
from driftkept.memory import Layout, Memory
from driftkept.world import World
from support import draw_call, in_kinds, lasting_cells, told

PUT = ("put", 0, 5)
# What a put in a new memory makes: its accesses in all if there is no other thread (for each other one
# there is one more), and the number of some of them.
WHOLE, SLOT_LASTS, DECIDED, STATUS_LASTS, TOLD_LASTS = 33, 15, 20, 23, 29


def all_of(world):
    """All that a world tells of itself."""
    stores = [(store.free_cells(), store.waiting()) for store in world.stores]
    idle = [world.idle(thread) for thread in range(world.layout.threads)]
    return (told(world.memory), stores, world.history(), world.recovering(), idle)


def at_access(calls, accesses, thread=0):
    """A world in which a thread has made so many accesses."""
    world = World(calls)
    assert world.play([thread] * accesses) == [True] * accesses
    return world


def recover(world):
    """Let a recovery end; how many accesses it made."""
    count = world.memory.count
    while world.recovering():
        assert world.play([0]) == [True]
    return world.memory.count - count


class Creation(unittest.TestCase):
    def test_fields(self):
        for threads in (1, 2, 3):
            for records in (20, 60, 200):
                world = World([[PUT]] * threads, records)
                layout = world.layout
                self.assertIs(world.memory.layout, layout)
                self.assertEqual((layout.threads, layout.words, layout.records), (threads, 4, records))
                self.assertEqual(told(world.memory), told(Memory(Layout(threads, 4, records))))
                self.assertEqual([(store.layout, store.thread) for store in world.stores], [
                    (layout, thread) for thread in range(threads)
                ])
                for thread, store in enumerate(world.stores):
                    free = [layout.record(index) for index in range(4, records) if index % threads == thread]
                    self.assertEqual((store.free_cells(), store.waiting()), (free, []))
                self.assertEqual(world.history(), [])
                self.assertIs(world.recovering(), False)

    def test_defaults(self):
        self.assertEqual(World([[]]).layout.records, 60)
        world = World(calls=[[PUT]], records=20, without=1)
        world.play([0] * 8)
        # Without 1 the new record is not flushed.
        self.assertEqual(world.memory.access(0, ("fence",))[1], 9)
        world.play([0])
        self.assertEqual(world.memory.log()[-1][2], ("flush", world.layout.record(5)))

    def test_calls_that_are_refused(self):
        calls = [
            [], [[], [], [], []], ([],), None, 3, "", [None], [()], [PUT], [[PUT], (PUT,)], [[PUT], None],
            [["look"]], [[None]], [[("look", True)]], [[["look", 0]]], [[PUT, ("shout", 0)]], [[], [PUT], [3]], {0: []},
        ]
        for refused in calls:
            with self.assertRaises(NotValid):
                World(refused)

    def test_numbers_of_records(self):
        for records in (19, 201, 0, -1, 4, 10 ** 9, True, None, "60"):
            with self.assertRaises(NotValid):
                World([[PUT]], records)
        for records in (20, 21, 199, 200):
            self.assertEqual(World([[PUT]], records).layout.records, records)

    def test_numbers_of_places(self):
        for without in (-1, 8, 10 ** 9, True, False, None, "1"):
            with self.assertRaises(NotValid):
                World([[PUT]], 60, without)
        for without in range(8):
            self.assertTrue(World([[PUT]], 60, without).settle(90))

    def test_the_calls_may_be_changed_afterwards(self):
        calls = [[PUT, ("look", 0)], []]
        world = World(calls)
        calls[0][0] = ("look", 9)
        calls[1].append(PUT)
        calls.append([PUT])
        self.assertTrue(world.settle(90))
        self.assertEqual([row[:4] for row in world.history()], [(0, 0, PUT, None), (0, 1, ("look", 0), 5)])

    def test_what_is_passed_is_not_changed(self):
        calls = [[PUT, ("look", 0)], [PUT]]
        choices = [1, 2, 3]
        acts = [0, 1, ("drift", 7, 2), ("cut", choices), 0]
        before = copy.deepcopy((calls, acts))
        world = World(calls)
        world.play(acts)
        world.settle(200)
        self.assertEqual((calls, acts), before)


class Picks(unittest.TestCase):
    def test_calls_one_after_the_other(self):
        world = World([[("look", 0), ("look", 1)]])
        self.assertEqual(world.play([]), [])
        self.assertEqual(world.history(), [])
        self.assertEqual(world.play([0, 0, 0, 0, 0]), [True] * 5)
        self.assertEqual(world.history(), [(0, 0, ("look", 0), None, None, 1, None)])
        world.play([0])
        # The call has ended, and the next one begins with the next act.
        self.assertEqual(world.history(), [(0, 0, ("look", 0), None, 4, 1, 6)])
        world.play([0])
        self.assertEqual(world.history()[1], (0, 1, ("look", 1), None, None, 7, None))
        self.assertFalse(world.idle(0))
        self.assertEqual(world.play([0] * 7), [True] * 5 + [False] * 2)
        self.assertEqual(world.history()[1], (0, 1, ("look", 1), None, 10, 7, 12))
        self.assertTrue(world.idle(0))
        self.assertEqual(world.memory.count, 12)

    def test_one_access_for_each_act(self):
        world = World([[PUT], [PUT, ("take", 1)], [("look", 2)]])
        draw = random.Random(39)
        for _ in range(250):
            thread = draw.randrange(3)
            idle = world.idle(thread)
            before = world.memory.count
            self.assertEqual(world.play([thread]), [not idle])
            self.assertEqual(world.memory.count, before + (not idle))
            if not idle:
                self.assertEqual(world.memory.log()[-1][1], thread)
        self.assertTrue(all(world.idle(thread) for thread in range(3)))

    def test_the_number_of_a_call_is_its_index_and_1(self):
        world = World([[PUT, ("put", 0, 6), ("look", 0), ("put", 0, 7)], [("put", 1, 5)]])
        self.assertTrue(world.settle(400))
        slots = [world.memory.peek(world.layout.call_slot(thread)) for thread in range(2)]
        self.assertEqual([slot[:2] for slot in slots], [("told", 4), ("told", 1)])
        deeds = [request[2] for at, thread, request in world.memory.log()
                 if request[0] == "write" and isinstance(request[2], tuple) and request[2][0] == "deed"]
        self.assertEqual([deed[3:5] for deed in deeds if len(deed) == 6 and deed[3] == 0], [(0, 1), (0, 2), (0, 4)])

    def test_integers_that_are_no_thread(self):
        for world in (World([[PUT], [PUT]]), at_access([[PUT], [PUT]], 5)):
            before = all_of(world)
            self.assertEqual(world.play([-1, 2, 3, 10 ** 9, -(10 ** 9)]), [False] * 5)
            self.assertEqual(all_of(world), before)

    def test_a_thread_whose_calls_have_ended(self):
        world = World([[], [PUT]])
        before = all_of(world)
        self.assertEqual(world.play([0, 0]), [False, False])
        self.assertEqual(all_of(world), before)
        self.assertEqual(world.play([1] * (WHOLE + 2)), [True] * (WHOLE + 1) + [False])
        before = all_of(world)
        self.assertEqual(world.play([1, 0]), [False, False])
        self.assertEqual(all_of(world), before)

    def test_while_the_memory_recovers(self):
        world = at_access([[PUT], []], 18)
        world.play([("cut", [])])
        count = world.memory.count
        self.assertEqual(world.play([1, 2, -1, 0, 3, 1, True]), [True, False, False, True, False, True, False])
        self.assertEqual(world.memory.count, count + 3)
        # The recovery is made by thread 0, whichever thread is picked.
        self.assertEqual([row[1] for row in world.memory.log()[count:]], [0, 0, 0])
        self.assertEqual(world.memory.log()[count][2], ("read", world.layout.call_slot(0)))
        while world.recovering():
            self.assertEqual(world.play([2, 1]), [False, True])
        # Its calls have ended, and it is picked no more.
        self.assertEqual(world.play([1]), [False])

    def test_acts_of_other_forms(self):
        word = Layout(2, 4, 60).word(0)
        acts = [
            None, True, False, "0", "cut", 0.0, (), (0,), [0], ("cut",), ("cut", [], []), ("drift", word),
            ("drift", word, 1, 1), ("drift",), ["drift", word, 9], ["cut", []], ("fence",), ("read", word),
            ("Cut", []), ("write", word, 3), {}, ("cut", [], None), (None, []),
        ]
        world = at_access([[PUT], [PUT]], 27)
        for _ in range(2):
            before = all_of(world)
            for act in acts:
                self.assertEqual(world.play([act]), [False], act)
            self.assertEqual(world.play(acts), [False] * len(acts))
            self.assertEqual(all_of(world), before)
            world.play([("cut", [])])

    def test_play_tells_of_each_act(self):
        world = World([[("look", 0)], [PUT]])
        acts = [1] * 27 + [0] * 6
        word = world.layout.word(0)
        played = world.play(acts + [0, ("drift", word, 0), ("drift", word, 1), 7, ("drift", word, 9), ("cut", [])])
        self.assertEqual(played[:33], [True] * 33)
        self.assertEqual([one is True or one is False for one in played], [True] * len(played))
        self.assertEqual(played[33:], [False, False, False, False, False, True])


class Drifts(unittest.TestCase):
    def setUp(self):
        # The word has got its mark and its new address, and none of it lasts.
        self.world = at_access([[PUT], []], 24)
        self.word = self.world.layout.word(0)

    def length(self):
        return len(self.world.memory.trail(self.word))

    def check_none(self, act):
        before = all_of(self.world)
        self.assertEqual(self.world.play([act]), [False], act)
        self.assertEqual(all_of(self.world), before)

    def test_steps(self):
        self.assertEqual(self.length(), 3)
        self.assertEqual(self.world.play([("drift", self.word, 1)]), [True])
        self.assertEqual(self.length(), 2)
        self.assertEqual(self.world.play([("drift", self.word, 10 ** 9)]), [True])
        self.assertEqual(self.length(), 1)
        self.check_none(("drift", self.word, 1))
        self.assertEqual(self.world.memory.count, 24)

    def test_no_steps(self):
        self.check_none(("drift", self.word, 0))

    def test_other_steps(self):
        for steps in (-1, 10 ** 9 + 1, 10 ** 30, True, False, None, "1", [1], 1.0):
            self.check_none(("drift", self.word, steps))

    def test_trails_of_one_value(self):
        for cell in (self.world.layout.word(1), self.world.layout.record(30), self.world.layout.call_slot(1)):
            for steps in (1, 10 ** 9):
                self.check_none(("drift", cell, steps))

    def test_cells_that_are_not_lasting(self):
        layout = self.world.layout
        for cell in (0, 1, 2, -1, layout.cells(), 10 ** 9, True, None, "7", (7,)):
            self.check_none(("drift", cell, 1))

    def test_while_the_memory_recovers(self):
        self.world.play([0] * 2 + [("cut", [])])
        slot = self.world.layout.call_slot(0)
        while len(self.world.memory.trail(slot)) == 1:
            self.assertEqual(self.world.play([0]), [True])
        self.assertEqual(self.world.play([("drift", slot, 5), ("drift", slot, 5)]), [True, False])
        self.assertTrue(self.world.recovering())


class Cuts(unittest.TestCase):
    def setUp(self):
        self.world = at_access([[PUT], [PUT]], 26)
        self.many = len(lasting_cells(self.world.memory))

    def cut(self, choices):
        """What lasts behind a cut, and what would behind one of the memory alone."""
        memory = copy.deepcopy(self.world.memory)
        memory.cut(choices)
        self.assertEqual(self.world.play([("cut", choices)]), [True])
        self.assertTrue(self.world.recovering())
        self.assertEqual(told(self.world.memory), told(memory))

    def test_choices(self):
        for choices in ([], [0], [1] * 20, list(range(self.many)), [10 ** 9] * self.many):
            self.setUp()
            self.cut(choices)

    def test_choices_beyond_the_lasting_cells(self):
        self.cut([1] * (self.many + 5))

    def test_other_choices(self):
        before = all_of(self.world)
        for choices in (None, 0, (), (0, 0), "", {}, [-1], [10 ** 9 + 1], [0, None], [True], [False], ["1"], [[1]],
                        [0] * self.many + [-1], [0] * self.many + [10 ** 9 + 1]):
            self.assertEqual(self.world.play([("cut", choices)]), [False], choices)
            self.assertEqual(all_of(self.world), before)

    def test_a_cut_while_the_memory_recovers(self):
        self.cut([])
        for accesses in range(1, 9):
            self.world.play([0] * accesses)
            self.assertTrue(self.world.recovering())
            self.cut([])
            # The recovery begins anew.
            self.world.play([1])
            self.assertEqual(self.world.memory.log()[-1][1:], (0, ("read", self.world.layout.call_slot(0))))
        self.assertLess(recover(self.world), 20)

    def test_a_cut_of_a_world_that_has_done_nothing(self):
        world = World([[]])
        self.assertEqual(world.play([("cut", []), 0, 0, 0, 0, 0, 0]), [True] * 6 + [False])
        self.assertEqual((world.recovering(), world.history(), world.memory.count), (False, [], 5))

    def test_the_choices_may_be_changed_afterwards(self):
        choices = [0] * self.many
        acts = [("cut", choices)]
        other = copy.deepcopy(self.world)
        self.world.play(acts)
        choices[0] = -1
        acts.append(0)
        other.play([("cut", [0] * self.many)])
        self.assertEqual(all_of(self.world), all_of(other))


class BehindRecovery(unittest.TestCase):
    def cut_at(self, accesses, calls=((PUT, ("look", 0)),)):
        world = at_access([list(row) for row in calls], accesses)
        world.play([("cut", [])])
        recover(world)
        return world

    def check_first(self, accesses, answer, witness, slot):
        world = self.cut_at(accesses)
        expected = (0, 0, PUT, answer, witness, 1, world.memory.count)
        self.assertEqual(in_kinds(world.history()[0]), in_kinds(expected), accesses)
        self.assertEqual(world.memory.peek(world.layout.call_slot(0)), slot)
        # The thread goes on with its next call.
        self.assertEqual(world.history()[1:], [])
        first = world.memory.count + 1
        self.assertEqual(world.play([0] * 7), [True] * 6 + [False])
        shown = None if witness is None else 5
        self.assertEqual(world.history()[1], (0, 1, ("look", 0), shown, first + 3, first, first + 5))

    def test_the_slot_says_nothing(self):
        for accesses in range(1, SLOT_LASTS):
            self.check_first(accesses, "undone", None, None)

    def test_the_slot_says_undone(self):
        # The deed may be done, but this does not last.
        for accesses in range(SLOT_LASTS, STATUS_LASTS):
            self.check_first(accesses, "undone", None, ("undone", 1))

    def test_the_slot_says_told(self):
        # By the recovery first, and then by the call.
        for accesses in range(STATUS_LASTS, WHOLE):
            self.check_first(accesses, None, DECIDED, ("told", 1, None, DECIDED))

    def test_a_call_that_has_ended_is_not_told_anew(self):
        world = self.cut_at(WHOLE)
        self.assertEqual(world.history(), [(0, 0, PUT, None, DECIDED, 1, WHOLE)])

    def test_the_slot_says_an_elder_number(self):
        calls = [[PUT, ("put", 0, 6), ("look", 0)]]
        for accesses in (WHOLE + 1, WHOLE + 8, WHOLE + 14):
            world = self.cut_at(accesses, calls)
            self.assertEqual(world.memory.peek(world.layout.call_slot(0)), ("told", 1, None, DECIDED))
            row = (0, 1, ("put", 0, 6), "undone", None, WHOLE + 1, world.memory.count)
            self.assertEqual(world.history()[1:], [row])
            self.assertTrue(world.settle(90))
            self.assertEqual(world.history()[2][3], 5)

    def test_a_call_that_only_reads(self):
        world = self.cut_at(5, [[("look", 0), PUT]])
        self.assertEqual(world.history(), [(0, 0, ("look", 0), "undone", None, 1, world.memory.count)])
        self.assertTrue(world.settle(90))
        self.assertEqual(world.history()[1][3], None)
        self.assertEqual(world.memory.peek(world.layout.call_slot(0))[:2], ("told", 2))

    def cut_when_done(self, world):
        """Let thread 0 make accesses until its last call has a witness, and cut when all has drifted."""
        while not world.history() or world.history()[-1][4] is None:
            self.assertEqual(world.play([0]), [True])
        row = world.history()[-1]
        world.play([("cut", [9] * len(lasting_cells(world.memory)))])
        recover(world)
        self.assertEqual(world.history()[-1][:3] + world.history()[-1][4:6], row[:3] + row[4:6])
        return world.history()[-1][3]

    def test_answers_of_other_kinds(self):
        world = World([[PUT, ("puts", ((0, 6), (1, 7))), ("move", 0, 2), ("change", 1, 7, 8), ("take", 2)]])
        for answer in (None, (5, None), True, True, 6):
            found = self.cut_when_done(world)
            self.assertEqual(in_kinds(found), in_kinds(answer))
            # The next call begins.
            world.play([0])

    def test_the_last_access_of_all_open_calls(self):
        world = World([[PUT], [("look", 1)], [PUT]])
        world.play([0] * 25 + [1] * 3 + [("cut", [])])
        accesses = recover(world)
        rows = world.history()
        self.assertEqual([row[:6] for row in rows], [
            (0, 0, PUT, None, DECIDED, 1), (1, 0, ("look", 1), "undone", None, 26),
        ])
        self.assertEqual([row[6] for row in rows], [28 + accesses] * 2)
        self.assertEqual([world.idle(thread) for thread in range(3)], [True, True, False])

    def test_a_call_that_is_cut_in_its_recovery_too(self):
        world = at_access([[PUT, PUT]], STATUS_LASTS)
        for accesses in (1, 4, 9, 12):
            world.play([("cut", [])] + [0] * accesses)
            self.assertTrue(world.recovering())
        recover(world)
        self.assertEqual(world.history(), [(0, 0, PUT, None, DECIDED, 1, world.memory.count)])

    def test_the_stores(self):
        for accesses in (3, 17, 24, WHOLE):
            world = at_access([[PUT], [("put", 1, 5)]], accesses)
            world.play([1] * 12 + [("cut", [])])
            elder = list(world.stores)
            recover(world)
            shown = [world.memory.peek(world.layout.word(index)) for index in range(4)]
            for thread, store in enumerate(world.stores):
                free = [world.layout.record(index) for index in range(60) if index % 2 == thread]
                self.assertEqual(store.free_cells(), [cell for cell in free if cell not in shown])
                self.assertEqual((store.waiting(), store.layout, store.thread), ([], world.layout, thread))
                self.assertIsNot(store, elder[thread])

    def test_a_recovery_with_no_open_call(self):
        world = World([[PUT], [("look", 0)]])
        self.assertTrue(world.settle(90))
        before = world.history()
        world.play([("cut", [])])
        self.assertEqual(world.history(), before)
        self.assertEqual(recover(world), 6)
        self.assertEqual(world.history(), before)


class Histories(unittest.TestCase):
    def test_an_open_change(self):
        world = World([[PUT]])
        self.assertEqual(world.history(), [])
        for accesses in range(1, WHOLE):
            world.play([0])
            witness = DECIDED if accesses >= DECIDED else None
            self.assertEqual(world.history(), [(0, 0, PUT, None, witness, 1, None)], accesses)
        world.play([0])
        self.assertEqual(world.history(), [(0, 0, PUT, None, DECIDED, 1, WHOLE)])

    def test_an_open_call_that_reads_has_no_witness(self):
        world = World([[("look", 0)]])
        for accesses in range(1, 6):
            world.play([0])
            self.assertEqual(world.history(), [(0, 0, ("look", 0), None, None, 1, None)])

    def test_an_open_change_whose_deed_another_thread_decides(self):
        world = World([[PUT], [("put", 4, 6)]])
        world.play([0] * 19)
        while world.history()[0][4] is None:
            self.assertEqual(world.play([1]), [True])
        request = world.memory.log()[-1]
        self.assertEqual((request[1], request[2][0]), (1, "decide"))
        self.assertEqual(world.history()[0], (0, 0, PUT, None, world.memory.count, 1, None))

    def test_a_failed_deed_has_no_witness(self):
        world = World([[PUT], [("put", 4, 6)]])
        world.play([0] * 17 + [1] * WHOLE)
        for _ in range(11):
            world.play([0])
            self.assertIsNone(world.history()[0][4])
        self.assertIn(("decide", world.layout.record(6), "failed"), [row[2] for row in world.memory.log()])

    def test_while_the_memory_recovers(self):
        world = at_access([[PUT, PUT], [("put", 1, 7)]], 25)
        world.play([1] * 40 + [1] * 5)
        before = world.history()
        self.assertEqual([row[4] is not None for row in before], [True, True])
        world.play([("cut", [])])
        while world.recovering():
            # The rows of calls that have ended stay as they are.
            self.assertEqual(world.history(), [before[0][:4] + (None, 1, None), before[1]])
            world.play([1])
        self.assertEqual(world.history()[0][:6], before[0][:6])

    def test_rows_are_ordered_by_thread_and_index(self):
        world = World([[("look", 0)] * 3, [PUT] * 2, [("take", 0)] * 3])
        for thread in (2, 2, 1, 0, 2, 1, 0):
            for _ in range(40):
                world.play([thread])
        places = [row[:2] for row in world.history()]
        self.assertEqual(places, sorted(places))
        self.assertEqual(len(places), 8)
        for row in world.history():
            self.assertIsInstance(row, tuple)

    def test_a_history_is_not_changed_later(self):
        world = at_access([[PUT, PUT], [PUT]], 22)
        rows = world.history()
        before = list(rows)
        world.play([1, 0, 0, ("cut", [])])
        recover(world)
        world.settle(200)
        self.assertEqual(rows, before)
        rows.append(None)
        self.assertEqual(len(world.history()), 3)

    def test_the_answers_of_all_kinds(self):
        calls = [("put", 0, 5), ("look", 0), ("change", 0, 5, 6), ("change", 0, 5, 7), ("move", 0, 1), ("move", 0, 1),
                 ("puts", ((0, 1), (1, 2), (2, 3))), ("take", 2), ("take", 2)]
        world = World([calls])
        self.assertTrue(world.settle(1000))
        answers = [row[3] for row in world.history()]
        self.assertEqual(in_kinds(tuple(answers)), in_kinds((None, 5, True, False, True, False, (None, 6, None), 3, None)))
        self.assertEqual([row[2] for row in world.history()], calls)

    def test_full(self):
        world = World([[("put", 0, value) for value in range(9)]] + [[]] * 2, 20)
        self.assertTrue(world.settle(1000))
        answers = [row[3] for row in world.history()]
        self.assertIn("full", answers)
        for row in world.history():
            self.assertEqual(row[4] is None, row[3] == "full")


class Settling(unittest.TestCase):
    def test_no_rounds(self):
        world = World([[PUT], [PUT]])
        self.assertIs(world.settle(0), False)
        self.assertEqual(world.memory.count, 0)
        self.assertIs(World([[], []]).settle(0), True)

    def test_rounds(self):
        world = World([[PUT], [("look", 1)], []])
        self.assertIs(world.settle(4), False)
        self.assertEqual([row[1] for row in world.memory.log()], [0, 1] * 4)
        self.assertIs(world.settle(2), False)
        self.assertEqual([row[1] for row in world.memory.log()[8:]], [0, 1] * 2)
        # The look has ended.
        self.assertIs(world.settle(3), False)
        self.assertEqual([row[1] for row in world.memory.log()[12:]], [0] * 3)
        self.assertIs(world.settle(WHOLE + 2 - 10), False)
        self.assertIs(world.settle(1), True)
        self.assertEqual(world.memory.count, WHOLE + 2 + 6)

    def test_too_few_and_enough(self):
        for rounds in (1, WHOLE - 1, WHOLE, WHOLE + 1, 10 ** 12):
            world = World([[PUT]])
            self.assertIs(world.settle(rounds), rounds >= WHOLE)
            self.assertEqual(world.memory.count, min(rounds, WHOLE))

    def test_nothing_is_left(self):
        world = at_access([[PUT]], WHOLE)
        before = all_of(world)
        for rounds in (0, 1, 50):
            self.assertIs(world.settle(rounds), True)
        self.assertEqual(all_of(world), before)

    def test_while_the_memory_recovers(self):
        world = at_access([[PUT], [PUT], []], 20)
        world.play([("cut", [])])
        other = copy.deepcopy(world)
        accesses = recover(other)
        for rounds in range(1, accesses):
            # A round is one access of the recovery.
            self.assertIs(world.settle(1), False)
            self.assertEqual(world.memory.count, 20 + rounds)
            self.assertTrue(world.recovering())
        self.assertIs(world.settle(1), False)
        self.assertFalse(world.recovering())
        self.assertEqual(all_of(world), all_of(other))
        self.assertIs(world.settle(WHOLE + 2), True)
        self.assertEqual([row[1] for row in world.memory.log()[20 + accesses:]], [1] * (WHOLE + 2))

    def test_a_recovery_is_left_when_all_calls_have_ended(self):
        world = at_access([[PUT]], WHOLE)
        world.play([("cut", [])])
        self.assertIs(world.settle(0), False)
        self.assertIs(world.settle(4), False)
        self.assertIs(world.settle(1), True)
        self.assertEqual(world.memory.count, WHOLE + 5)

    def test_it_is_the_same_as_picking(self):
        draw = random.Random(42)
        for _ in range(10):
            calls = [[draw_call(draw, 3) for _ in range(3)] for _ in range(3)]
            one, other = World(calls), World(calls)
            one.settle(70)
            other.play([0, 1, 2] * 70)
            self.assertEqual(all_of(one), all_of(other))


class Asking(unittest.TestCase):
    def test_asking_changes_nothing(self):
        world = at_access([[PUT], [PUT]], 20)
        for _ in range(2):
            before = all_of(world)
            self.assertEqual(all_of(world), before)
            world.play([("cut", [])])

    def test_idle(self):
        world = World([[], [PUT], [("look", 0)]])
        self.assertEqual([world.idle(thread) for thread in range(3)], [True, False, False])
        world.play([2] * 5)
        self.assertIs(world.idle(2), False)
        world.play([2])
        self.assertIs(world.idle(2), True)
        world.play([1, ("cut", [])])
        # Its open call ends with the recovery.
        self.assertIs(world.idle(1), False)
        recover(world)
        self.assertIs(world.idle(1), True)

    def test_recovering(self):
        world = World([[PUT]])
        self.assertIs(world.recovering(), False)
        world.play([("cut", [])])
        for _ in range(5):
            self.assertIs(world.recovering(), True)
            world.play([0])
        self.assertIs(world.recovering(), False)


if __name__ == "__main__":
    unittest.main()
