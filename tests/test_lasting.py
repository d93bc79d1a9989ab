"""Points [5], [7], [8] and [9]: flushes and fences, drifts and cuts."""

import itertools
import unittest

from driftkept.errors import NotValid
from driftkept.memory import Layout, Memory
from support import a_memory, behind_fences, lasting_cells, told


def with_trail(values):
    """A memory whose first word has a trail of these values, by thread 0, and this word."""
    memory = a_memory(threads=3, words=1, records=4)
    word = memory.layout.word(0)
    for value in values:
        memory.access(0, ("write", word, value))
    memory.drift(word, 1)
    return memory, word


class Example(unittest.TestCase):
    """The example of the interface."""

    def fenced(self):
        memory, cell = with_trail([3])
        self.assertEqual(memory.trail(cell), [3])
        memory.access(0, ("write", cell, 4))
        memory.access(0, ("flush", cell))
        memory.access(0, ("write", cell, 5))
        self.assertEqual(memory.trail(cell), [3, 4, 5])
        memory.access(0, ("fence",))
        self.assertEqual(memory.trail(cell), [4, 5])
        return memory, cell

    def test_choices(self):
        for choice, left in ((0, 4), (1, 5), (2, 5), (10 ** 9, 5)):
            memory, cell = self.fenced()
            before = lasting_cells(memory).index(cell)
            memory.cut([0] * before + [choice])
            self.assertEqual(memory.trail(cell), [left])
            self.assertEqual(memory.peek(cell), left)


class Fences(unittest.TestCase):
    def check(self, acts, trail):
        """Behind the acts on a word with the trail [1, 2], its trail is this one."""
        memory, word = with_trail([1, 2])
        for act in acts:
            if act[1] == "drift":
                memory.drift(word, act[2])
            elif act[1] == "fence":
                memory.access(act[0], ("fence",))
            elif act[1] == "flush":
                memory.access(act[0], ("flush", word))
            else:
                memory.access(act[0], ("write", word, act[2]))
        self.assertEqual(memory.trail(word), trail)

    def test_a_flush_alone_takes_nothing_away(self):
        self.check([(0, "flush")], [1, 2])

    def test_a_fence_alone_takes_nothing_away(self):
        self.check([(0, "fence")], [1, 2])

    def test_a_fence_takes_away_what_stands_before_the_place(self):
        self.check([(0, "flush"), (0, "fence")], [2])
        self.check([(0, "flush"), (0, "write", 3), (0, "write", 4), (0, "fence")], [2, 3, 4])

    def test_the_place_is_that_of_the_flush_also_for_equal_values(self):
        self.check([(0, "flush"), (0, "write", 2), (0, "write", 2), (0, "fence")], [2, 2, 2])
        self.check([(0, "write", 1), (0, "flush"), (0, "write", 1), (0, "fence")], [1, 1])

    def test_the_fence_of_another_thread_takes_nothing_away(self):
        self.check([(0, "flush"), (1, "fence")], [1, 2])
        self.check([(0, "flush"), (1, "fence"), (2, "fence"), (0, "fence")], [2])

    def test_each_thread_has_its_own_notes(self):
        acts = [(0, "flush"), (0, "write", 3), (1, "flush"), (0, "write", 4)]
        self.check(acts, [1, 2, 3, 4])
        self.check(acts + [(0, "fence")], [2, 3, 4])
        self.check(acts + [(1, "fence")], [3, 4])
        self.check(acts + [(2, "fence")], [1, 2, 3, 4])

    def test_the_cell_has_been_fenced_by_another_thread_between(self):
        acts = [(0, "flush"), (0, "write", 3), (1, "flush"), (0, "write", 4), (0, "write", 5)]
        self.check(acts + [(1, "fence"), (0, "fence")], [3, 4, 5])
        self.check(acts + [(0, "fence"), (1, "fence")], [3, 4, 5])

    def test_the_cell_has_drifted_between(self):
        acts = [(0, "write", 3), (0, "flush"), (0, "write", 4), (0, "write", 5)]
        self.check(acts + [(0, "fence")], [3, 4, 5])
        self.check(acts + [(0, "drift", 1), (0, "fence")], [3, 4, 5])
        self.check(acts + [(0, "drift", 2), (0, "fence")], [3, 4, 5])
        self.check(acts + [(0, "drift", 3), (0, "fence")], [4, 5])
        self.check(acts + [(0, "drift", 9), (0, "fence")], [5])

    def test_the_cell_has_drifted_and_been_written_between(self):
        acts = [(0, "flush"), (0, "write", 3), (0, "drift", 2), (0, "write", 4), (0, "fence")]
        self.check(acts, [3, 4])

    def test_a_second_flush_of_the_same_cell(self):
        acts = [(0, "flush"), (0, "write", 3), (0, "flush"), (0, "write", 4)]
        self.check(acts, [1, 2, 3, 4])
        self.check(acts + [(0, "fence")], [3, 4])

    def test_a_second_flush_at_the_same_place(self):
        self.check([(0, "flush"), (0, "flush"), (0, "write", 3), (0, "fence")], [2, 3])

    def test_notes_are_gone_behind_the_fence(self):
        acts = [(0, "flush"), (0, "fence"), (0, "write", 3), (0, "write", 4), (0, "fence")]
        self.check(acts, [2, 3, 4])
        self.check(acts + [(0, "flush"), (0, "fence")], [4])

    def test_a_fence_behind_a_later_flush_of_another_thread(self):
        self.check([(1, "flush"), (1, "write", 3), (0, "fence"), (0, "flush"), (1, "fence")], [2, 3])

    def test_a_fence_is_for_all_cells_that_were_flushed_and_for_no_other(self):
        memory = a_memory(threads=1, words=3, records=4)
        layout = memory.layout
        cells = [layout.word(0), layout.record(3), layout.call_slot(0), layout.word(2)]
        firsts = [memory.peek(cell) for cell in cells]
        for cell in cells:
            memory.access(0, ("write", cell, "a"))
            memory.access(0, ("write", cell, "b"))
        for cell in cells[:3]:
            memory.access(0, ("flush", cell))
        memory.access(0, ("fence",))
        self.assertEqual([memory.trail(cell) for cell in cells[:3]], [["b"]] * 3)
        self.assertEqual(memory.trail(cells[3]), [firsts[3], "a", "b"])


class Plain:
    """One lasting cell as the document tells it: values with names of their own, places by name."""

    def __init__(self, first):
        self.names = [0]
        self.values = {0: first}
        self.notes = {0: [], 1: []}

    def play(self, act):
        word, argument = act
        if word == "write":
            self.values[len(self.values)] = argument
            self.names.append(len(self.values) - 1)
        elif word == "flush":
            self.notes[argument].append(self.names[-1])
        elif word == "fence":
            for name in self.notes[argument]:
                while name in self.names and self.names[0] != name:
                    self.names.pop(0)
            self.notes[argument] = []
        elif word == "drift":
            for _ in range(argument):
                if len(self.names) > 1:
                    self.names.pop(0)
        else:
            self.play(("drift", argument))
            self.names = self.names[:1]
            self.notes = {0: [], 1: []}

    def trail(self):
        return [self.values[name] for name in self.names]


class AgainstThePlainCell(unittest.TestCase):
    """All short lists of acts, played in a memory and in the plain cell above."""

    ACTS = (
        ("write", 7),
        ("flush", 0),
        ("flush", 1),
        ("fence", 0),
        ("fence", 1),
        ("drift", 1),
        ("drift", 2),
        ("cut", 0),
        ("cut", 1),
    )

    def play(self, memory, cell, act):
        word, argument = act
        if word == "write":
            memory.access(0, ("write", cell, argument))
        elif word == "flush":
            memory.access(argument, ("flush", cell))
        elif word == "fence":
            memory.access(argument, ("fence",))
        elif word == "drift":
            memory.drift(cell, argument)
        else:
            memory.cut([0] * lasting_cells(memory).index(cell) + [argument])

    def test_all_lists_of_five_acts_behind_two_writes(self):
        layout = Layout(2, 1, 4)
        cell = layout.call_slot(1)
        for acts in itertools.product(self.ACTS, repeat=5):
            memory, plain = Memory(layout), Plain(None)
            # All values that are written differ, so that a trail tells its places.
            for at, act in enumerate((("write", 1), ("write", 2)) + acts):
                act = ("write", at) if act == ("write", 7) else act
                self.play(memory, cell, act)
                plain.play(act)
            if memory.trail(cell) != plain.trail():
                self.fail((acts, memory.trail(cell), plain.trail()))


class Drifts(unittest.TestCase):
    def test_steps(self):
        for steps, left in ((0, [1, 2, 3]), (1, [2, 3]), (2, [3]), (3, [3]), (4, [3]), (10 ** 9, [3])):
            memory, word = with_trail([1, 2, 3])
            others = [cell for cell in lasting_cells(memory) if cell != word]
            before = [memory.trail(cell) for cell in others]
            memory.drift(word, steps)
            self.assertEqual(memory.trail(word), left)
            self.assertEqual(memory.lasting(word), left[0])
            self.assertEqual(memory.peek(word), 3)
            self.assertEqual([memory.trail(cell) for cell in others], before)

    def test_a_trail_of_one_value_stays(self):
        memory, word = with_trail([1])
        for steps in (0, 1, 2):
            memory.drift(word, steps)
            self.assertEqual(memory.trail(word), [1])

    def test_every_lasting_cell_can_drift(self):
        memory = a_memory(threads=3, words=4, records=5)
        for cell in lasting_cells(memory):
            memory.access(0, ("write", cell, "new"))
            memory.drift(cell, 1)
            self.assertEqual(memory.trail(cell), ["new"])

    def test_refusals_change_nothing(self):
        memory, word = with_trail([1, 2, 3])
        memory.access(0, ("flush", word))
        before = told(memory)
        layout = memory.layout
        no_lasting_cells = (0, layout.epoch_slot(0), layout.epoch_slot(2), -1, layout.cells(), None, True, "4", [])
        for cell in no_lasting_cells:
            for steps in (0, 1, -1):
                with self.assertRaises(NotValid):
                    memory.drift(cell, steps)
        for steps in (-1, -2, -10 ** 9, None, True, False, "1", (), [1]):
            with self.assertRaises(NotValid):
                memory.drift(word, steps)
        self.assertEqual(told(memory), before)


class Cuts(unittest.TestCase):
    def setUp(self):
        self.memory = self.made()
        self.cells = lasting_cells(self.memory)

    def made(self):
        """Every lasting cell has the trail [1, 2, 3], and all passing cells have values."""
        memory = a_memory(threads=2, words=2, records=4)
        for cell in range(memory.layout.cells()):
            for value in (1, 2, 3):
                memory.access(0, ("write", cell, value))
        for cell in lasting_cells(memory):
            memory.drift(cell, 1)
        return memory

    def check(self, choices, left):
        self.memory.cut(choices)
        found = [self.memory.trail(cell) for cell in self.cells]
        self.assertEqual(found, [[value] for value in left])
        self.assertEqual([self.memory.peek(cell) for cell in self.cells], left)
        self.assertEqual([self.memory.lasting(cell) for cell in self.cells], left)

    def test_no_choices(self):
        self.check([], [1] * len(self.cells))

    def test_some_choices(self):
        self.check([0, 1, 2, 1], [1, 2, 3, 2] + [1] * (len(self.cells) - 4))

    def test_a_choice_for_each_lasting_cell(self):
        self.check([at % 3 for at in range(len(self.cells))], [at % 3 + 1 for at in range(len(self.cells))])

    def test_too_many_choices(self):
        self.check([0] * (len(self.cells) - 1) + [1, 2, 2, 2], [1] * (len(self.cells) - 1) + [2])

    def test_great_choices(self):
        self.check([3, 10 ** 9, 2, 10 ** 30], [3, 3, 3, 3] + [1] * (len(self.cells) - 4))

    def test_passing_cells_are_as_at_first(self):
        layout = self.memory.layout
        self.memory.cut([9] * 30)
        self.assertEqual(self.memory.peek(layout.epoch()), 0)
        self.assertEqual([self.memory.peek(layout.epoch_slot(thread)) for thread in (0, 1)], [None, None])
        self.memory.access(0, ("write", layout.epoch(), 4))
        self.memory.cut([])
        self.assertEqual(self.memory.peek(layout.epoch()), 0)

    def test_notes_are_gone(self):
        cell = self.cells[0]
        self.memory.access(0, ("flush", cell))
        self.memory.access(1, ("flush", cell))
        self.memory.cut([])
        for value in (4, 5, 6):
            self.memory.access(0, ("write", cell, value))
        self.memory.access(0, ("fence",))
        self.memory.access(1, ("fence",))
        self.assertEqual(self.memory.trail(cell), [1, 4, 5, 6])

    def test_flushes_and_fences_go_on_behind_a_cut(self):
        cell = self.cells[0]
        self.memory.cut([1])
        self.memory.access(0, ("write", cell, 4))
        self.memory.access(0, ("flush", cell))
        self.memory.access(0, ("write", cell, 5))
        self.memory.access(0, ("fence",))
        self.assertEqual(self.memory.trail(cell), [4, 5])

    def test_the_count_goes_on(self):
        count, log = self.memory.count, self.memory.log()
        self.memory.cut([])
        self.assertEqual((self.memory.count, self.memory.log()), (count, log))
        self.assertEqual(self.memory.access(1, ("read", self.cells[0])), (1, count + 1))
        self.assertEqual(self.memory.log(), log + [(count + 1, 1, ("read", self.cells[0]))])

    def test_a_second_cut_directly_behind_the_first(self):
        self.memory.cut([1])
        self.check([1], [2] + [1] * (len(self.cells) - 1))

    def test_the_choices_are_not_changed(self):
        choices = [2, 1]
        self.memory.cut(choices)
        self.assertEqual(choices, [2, 1])

    def test_refusals_change_nothing(self):
        twin = self.made()
        for memory in (self.memory, twin):
            memory.access(0, ("flush", self.cells[0]))
            memory.access(1, ("flush", self.cells[1]))
        many = len(self.cells)
        refused = [None, 0, 3, True, "", "12", (), (0,), {}, {0: 1}, [-1], [0, -1], [1] * many + [-1]]
        refused += [[None], [True], [0, False], ["1"], [[0]], [(0,)], [1] * many + [None], [1, 1, "x"]]
        for choices in refused:
            with self.assertRaises(NotValid, msg=choices):
                self.memory.cut(choices)
            self.assertEqual(told(self.memory), told(twin))
        self.assertEqual(behind_fences(self.memory), behind_fences(twin))


if __name__ == "__main__":
    unittest.main()
