"""Points [32] to [38]: the recovery of a memory behind a cut."""

import copy
import itertools
import unittest

from driftkept.deeds import deed_record
from driftkept.memory import Layout, Memory
from driftkept.recovery import Recovering
from support import Asked, in_kinds, lasting_cells, requests_behind, run, run_on, started


class Recoveries(unittest.TestCase):
    """A memory of three threads, in which slots, deeds and marks can be put; all of it lasts."""

    maxDiff = None

    def setUp(self):
        self.make()

    def make(self, threads=3, words=4):
        self.layout = Layout(threads, words, 60)
        self.memory = Memory(self.layout)
        self.words = [self.layout.word(index) for index in range(words)]
        self.slots = [self.layout.call_slot(thread) for thread in range(threads)]
        self.first = [self.layout.record(index) for index in range(words)]

    def record(self, index):
        return self.layout.record(index)

    def put(self, cell, value):
        self.memory.access(0, ("write", cell, value))
        self.memory.drift(cell, 9)

    def deed(self, index, status, entries, thread=0, number=1, answer=None):
        """Put a deed into the record with this index, behind it its status; entries by indexes."""
        entries = [(self.words[word], self.record(old), self.record(new)) for word, old, new in entries]
        self.put(self.record(index), deed_record(self.record(index + 1), entries, thread, number, answer))
        self.put(self.record(index + 1), status)

    def lead(self, thread, number, index):
        self.put(self.slots[thread], ("deed", number, self.record(index)))

    def mark(self, word, index, old, new):
        self.put(self.words[word], (self.record(index), self.record(index + 1), self.record(old), self.record(new)))

    def reads(self, *cells):
        return [("read", cell) for cell in cells]

    def gets(self, *pairs):
        """The accesses that give cells values and make them last; none if there are no cells."""
        if not pairs:
            return []
        cells = [cell for cell, value in pairs]
        return [("write", cell, value) for cell, value in pairs] + [("flush", cell) for cell in cells] + [("fence",)]

    def check(self, addresses, requests):
        """Cut the power, and recover; addresses by indexes of records."""
        self.memory.cut([])
        count = self.memory.count
        expected = [self.record(index) for index in addresses]
        found = run(self.memory, 0, Recovering(self.layout))
        self.assertIsInstance(found, list)
        self.assertEqual(found, expected)
        self.assertEqual(in_kinds(tuple(requests_behind(self.memory, count))), in_kinds(tuple(requests)))
        self.assertEqual({thread for at, thread, request in self.memory.log() if at > count}, {0})
        # All of it lasts, and a second recovery finds nothing to do.
        self.assertEqual([self.memory.trail(word) for word in self.words], [[address] for address in expected])
        count = self.memory.count
        self.memory.cut([])
        self.assertEqual(run(self.memory, 0, Recovering(self.layout)), expected)
        self.assertEqual(requests_behind(self.memory, count), self.reads(*self.slots, *self.words))


class Slots(Recoveries):
    def test_a_new_memory(self):
        for threads in (1, 2, 3):
            for words in (1, 2, 3, 4):
                self.make(threads, words)
                self.check(range(words), self.reads(*self.slots, *self.words))
                self.assertEqual([self.memory.trail(slot) for slot in self.slots], [[None]] * threads)

    def test_slots_that_lead_to_no_deed(self):
        values = (None, ("told", 3, True, 17), ("undone", 4))
        for slots in itertools.permutations(values):
            self.make()
            for slot, value in zip(self.slots, slots):
                self.put(slot, value)
            self.check(range(4), self.reads(*self.slots, *self.words))
            self.assertEqual([self.memory.peek(slot) for slot in self.slots], list(slots))

    def begun(self, thread, index):
        """The readings of the slots, of which one leads to a deed in the record with this index."""
        cells = list(self.slots)
        cells[thread + 1:thread + 1] = [self.record(index), self.record(index + 1)]
        return self.reads(*cells, *self.words)

    def test_an_undecided_deed_and_a_failed_one(self):
        for thread in range(3):
            for status in (0, ("failed", 9)):
                self.make()
                self.deed(20, status, [(1, 1, 30)], thread, 7)
                self.lead(thread, 7, 20)
                undone = self.gets((self.slots[thread], ("undone", 7)))
                self.check(range(4), self.begun(thread, 20) + undone)

    def test_a_status_that_never_came_to_last(self):
        for status in (None, ("items", ())):
            self.make()
            self.deed(20, status, [(1, 1, 30)], 0, 7)
            self.lead(0, 7, 20)
            self.check(range(4), self.begun(0, 20) + self.gets((self.slots[0], ("undone", 7))))

    def test_a_done_deed_whose_word_is_still_as_before(self):
        for thread in range(3):
            for answer in (None, True, False, 1, 0, (1, None)):
                self.make()
                self.deed(20, ("done", 9), [(1, 1, 30)], thread, 7, answer)
                self.lead(thread, 7, 20)
                word = self.gets((self.words[1], self.record(30)))
                told = self.gets((self.slots[thread], ("told", 7, answer, 9)))
                self.check([0, 30, 2, 3], self.begun(thread, 20) + word + told)
                self.assertEqual(in_kinds(self.memory.lasting(self.slots[thread])), in_kinds(("told", 7, answer, 9)))

    def test_a_done_deed_whose_words_have_it_already(self):
        self.deed(20, ("done", 9), [(0, 0, 30), (3, 3, 31)])
        self.lead(0, 1, 20)
        self.put(self.words[0], self.record(30))
        self.put(self.words[3], self.record(31))
        self.check([30, 1, 2, 31], self.begun(0, 20) + self.gets((self.slots[0], ("told", 1, None, 9))))

    def test_a_word_that_is_further_than_a_done_deed(self):
        self.deed(20, ("done", 9), [(0, 0, 30), (3, 3, 31)])
        self.lead(0, 1, 20)
        self.put(self.words[0], self.record(33))
        expected = self.gets((self.words[3], self.record(31))) + self.gets((self.slots[0], ("told", 1, None, 9)))
        self.check([33, 1, 2, 31], self.begun(0, 20) + expected)

    def test_a_cell_that_holds_no_deed_of_this_thread_and_number(self):
        for value in (None, 0, True, "deed", ("items", ()), ("done", 9), (), ("deed",), "elder", "other", "kind"):
            self.make()
            self.deed(20, ("done", 9), [(1, 1, 30)], 1, 7)
            self.lead(1, 7, 20)
            held = self.memory.peek(self.record(20))
            if value == "elder":
                value = held[:4] + (6,) + held[5:]
            elif value == "other":
                value = held[:3] + (2,) + held[4:]
            elif value == "kind":
                value = held[:3] + (True,) + held[4:]
            self.put(self.record(20), value)
            cells = self.slots[:2] + [self.record(20)] + self.slots[2:] + self.words
            self.check(range(4), self.reads(*cells) + self.gets((self.slots[1], ("undone", 7))))

    def test_all_slots_lead_to_deeds(self):
        self.deed(20, ("done", 9), [(0, 0, 30)], 0, 3, 5)
        self.deed(22, 0, [(1, 1, 31)], 1, 8)
        self.put(self.record(24), ("items", ()))
        for thread, number, index in ((0, 3, 20), (1, 8, 22), (2, 4, 24)):
            self.lead(thread, number, index)
        cells = [self.slots[0], *self.cells(20, 21), self.slots[1], *self.cells(22, 23), self.slots[2], *self.cells(24)]
        told = zip(self.slots, (("told", 3, 5, 9), ("undone", 8), ("undone", 4)))
        word = self.gets((self.words[0], self.record(30)))
        self.check([30, 1, 2, 3], self.reads(*cells, *self.words) + word + self.gets(*told))

    def cells(self, *indexes):
        return [self.record(index) for index in indexes]


class Words(Recoveries):
    def test_marks(self):
        for status, done in ((0, False), (("failed", 5), False), (None, False), (("done", 5), True), ("done", False)):
            self.make()
            self.put(self.record(21), status)
            self.mark(2, 20, 2, 30)
            address = 30 if done else 2
            reads = self.reads(*self.slots, *self.words[:3], self.record(21), self.words[3])
            self.check([0, 1, address, 3], reads + self.gets((self.words[2], self.record(address))))

    def test_marks_in_all_words(self):
        for index, status in ((20, ("done", 5)), (22, 0), (24, ("failed", 6)), (26, ("done", 7))):
            self.put(self.record(index + 1), status)
        cells = []
        for word, index in enumerate((20, 22, 24, 26)):
            self.mark(word, index, word, 30 + word)
            cells += [self.words[word], self.record(index + 1)]
        expected = [30, 1, 2, 33]
        words = self.gets(*[(word, self.record(index)) for word, index in zip(self.words, expected)])
        self.check(expected, self.reads(*self.slots, *cells) + words)

    def test_two_words_with_the_mark_of_one_deed(self):
        self.deed(20, ("done", 5), [(0, 0, 30), (2, 2, 31)], 1, 4, True)
        self.lead(1, 4, 20)
        self.mark(0, 20, 0, 30)
        self.mark(2, 20, 2, 31)
        status = self.record(21)
        cells = [*self.slots[:2], self.record(20), status, self.slots[2]]
        words = [self.words[0], status, self.words[1], self.words[2], status, self.words[3]]
        gets = self.gets((self.words[0], self.record(30)), (self.words[2], self.record(31)))
        told = self.gets((self.slots[1], ("told", 4, True, 5)))
        self.check([30, 1, 31, 3], self.reads(*cells, *words) + gets + told)

    def test_the_mark_of_a_deed_whose_status_lasts_as_undecided_only(self):
        self.deed(20, 0, [(0, 0, 30)])
        self.lead(0, 1, 20)
        self.mark(0, 20, 0, 30)
        # The decision has not come to the lasting medium.
        self.memory.access(0, ("write", self.record(21), ("done", 8)))
        cells = [self.slots[0], self.record(20), self.record(21), *self.slots[1:]]
        words = [self.words[0], self.record(21), *self.words[1:]]
        gets = self.gets((self.words[0], self.record(0))) + self.gets((self.slots[0], ("undone", 1)))
        self.check(range(4), self.reads(*cells, *words) + gets)

    def test_a_mark_whose_old_address_a_done_deed_leads_on(self):
        # The mark of a deed that was not done shows an address that another deed's entry has as its old one.
        self.deed(20, ("done", 5), [(0, 0, 30)], 0, 1)
        self.lead(0, 1, 20)
        self.put(self.record(23), ("failed", 6))
        self.mark(0, 22, 0, 31)
        cells = [self.slots[0], self.record(20), self.record(21), *self.slots[1:]]
        words = [self.words[0], self.record(23), *self.words[1:]]
        gets = self.gets((self.words[0], self.record(30))) + self.gets((self.slots[0], ("told", 1, None, 5)))
        self.check([30, 1, 2, 3], self.reads(*cells, *words) + gets)

    def test_words_that_hold_their_addresses_are_not_written(self):
        self.deed(20, ("done", 5), [(1, 1, 30), (3, 3, 31)])
        self.lead(0, 1, 20)
        self.put(self.words[1], self.record(30))
        self.put(self.words[0], self.record(40))
        cells = [self.slots[0], self.record(20), self.record(21), *self.slots[1:]]
        gets = self.gets((self.words[3], self.record(31))) + self.gets((self.slots[0], ("told", 1, None, 5)))
        self.check([40, 30, 2, 31], self.reads(*cells, *self.words) + gets)


class Chains(Recoveries):
    """Done deeds that lead a word on, one after the other."""

    def chain(self, order, links):
        """The thread order[k] has done the deed of links[k]; links are lists of entries."""
        self.make()
        cells = {}
        for at, thread in enumerate(order):
            index = 20 + 2 * at
            self.deed(index, ("done", 100 + at), links[at], thread, thread + 5, at)
            self.lead(thread, thread + 5, index)
            cells[thread] = [self.record(index), self.record(index + 1)]
        reads = []
        for thread in range(3):
            reads += [self.slots[thread], *cells.get(thread, [])]
        told = [(self.slots[thread], ("told", thread + 5, at, 100 + at)) for at, thread in enumerate(order)]
        return self.reads(*reads, *self.words), self.gets(*sorted(told))

    def check_chains(self, links, addresses, written):
        for order in itertools.permutations(range(3), len(links)):
            reads, told = self.chain(order, links)
            words = self.gets(*[(self.words[word], self.record(addresses[word])) for word in written])
            self.check(addresses, reads + words + told)

    def test_two_deeds(self):
        self.check_chains([[(1, 1, 30)], [(1, 30, 31)]], [0, 31, 2, 3], [1])

    def test_three_deeds(self):
        self.check_chains([[(1, 1, 30)], [(1, 30, 31)], [(1, 31, 32)]], [0, 32, 2, 3], [1])

    def test_deeds_over_several_words(self):
        links = [[(0, 0, 30), (1, 1, 31)], [(1, 31, 32), (2, 2, 33)], [(0, 30, 34), (2, 33, 35)]]
        self.check_chains(links, [34, 32, 35, 3], [0, 1, 2])

    def test_deeds_that_do_not_lead_on(self):
        self.check_chains([[(1, 30, 31)], [(2, 30, 32)]], [0, 1, 2, 3], [])

    def test_a_word_in_the_middle_of_the_chain(self):
        for order in itertools.permutations(range(3)):
            reads, told = self.chain(order, [[(1, 1, 30)], [(1, 30, 31)], [(1, 31, 32)]])
            self.put(self.words[1], self.record(31))
            words = self.gets((self.words[1], self.record(32)))
            self.check([0, 32, 2, 3], reads + words + told)

    def test_a_mark_in_the_middle_of_the_chain(self):
        for order in itertools.permutations(range(3)):
            self.chain(order, [[(1, 1, 30)], [(1, 30, 31)], [(1, 31, 32)]])
            self.mark(1, 22, 30, 31)
            self.memory.cut([])
            self.assertEqual(run(self.memory, 0, Recovering(self.layout))[1], self.record(32))

    def test_a_chain_with_a_deed_that_is_not_done(self):
        for order in itertools.permutations(range(3)):
            for status in (0, ("failed", 3)):
                self.chain(order, [[(1, 1, 30)], [(1, 30, 31)], [(1, 31, 32)]])
                self.put(self.record(23), status)
                self.memory.cut([])
                self.assertEqual(run(self.memory, 0, Recovering(self.layout))[1], self.record(30))
                slots = [self.memory.peek(slot)[0] for slot in self.slots]
                self.assertEqual(slots, ["undone" if thread == order[1] else "told" for thread in range(3)])


class CutAgain(Recoveries):
    """A recovery that is cut at any access, and begun anew."""

    def begin(self):
        self.make()
        self.deed(20, ("done", 9), [(0, 0, 30), (1, 1, 31)], 2, 3, True)
        self.deed(22, ("done", 11), [(1, 31, 32), (2, 2, 33)], 0, 5, (1, None))
        self.deed(24, 0, [(3, 3, 34)], 1, 8)
        for thread, number, index in ((2, 3, 20), (0, 5, 22), (1, 8, 24)):
            self.lead(thread, number, index)
        self.mark(1, 22, 31, 32)
        self.mark(3, 24, 3, 34)
        self.memory.cut([])

    def finish(self):
        found = run(self.memory, 0, Recovering(self.layout))
        self.assertEqual(found, [self.record(index) for index in (30, 32, 33, 3)])
        self.assertEqual([self.memory.trail(word) for word in self.words], [[address] for address in found])
        told = [("told", 5, (1, None), 11), ("undone", 8), ("told", 3, True, 9)]
        self.assertEqual([self.memory.trail(slot) for slot in self.slots], [[value] for value in told])

    def whole(self):
        self.begin()
        count = self.memory.count
        self.finish()
        return self.memory.count - count

    def test_a_cut_at_any_access_with_any_drift(self):
        for accesses in range(self.whole() + 1):
            for steps in (0, 1, 9):
                self.begin()
                started(self.memory, 0, Recovering(self.layout), accesses)
                self.memory.cut([steps] * len(lasting_cells(self.memory)))
                self.finish()

    def test_two_and_more_cuts(self):
        whole = self.whole()
        for first in range(0, whole + 1, 2):
            for second in range(0, whole + 1, 3):
                self.begin()
                for accesses in (first, second, first):
                    fitting = min(accesses, self.left())
                    started(self.memory, 0, Recovering(self.layout), fitting)
                    # Every second lasting cell has drifted.
                    self.memory.cut([0, 9] * len(self.slots + self.words))
                self.finish()

    def left(self):
        """How many accesses a recovery from here would make."""
        memory = copy.deepcopy(self.memory)
        count = memory.count
        run(memory, 0, Recovering(memory.layout))
        return memory.count - count

    def test_single_cells_that_have_drifted(self):
        whole = self.whole()
        for accesses in range(whole - 16, whole):
            self.begin()
            cells = lasting_cells(self.memory)
            for at in range(7):
                self.begin()
                started(self.memory, 0, Recovering(self.layout), accesses)
                self.memory.cut([9 if cells.index(cell) == at else 0 for cell in cells])
                self.finish()


class Machines(Recoveries):
    def test_the_request_is_the_same_until_a_result_is_accepted(self):
        self.deed(20, ("done", 9), [(0, 0, 30)], 0, 3, 5)
        self.lead(0, 3, 20)
        self.mark(1, 24, 1, 34)
        self.memory.cut([])
        memory = copy.deepcopy(self.memory)
        found = run(memory, 0, Recovering(self.layout))
        self.assertEqual(run(self.memory, 0, Asked(Recovering(self.layout))), found)
        self.assertEqual(self.memory.log(), memory.log())

    def test_what_it_ended_with_is_not_changed_later(self):
        stack = started(self.memory, 0, Recovering(self.layout), 0)
        found = run_on(self.memory, 0, stack)
        before = list(found)
        run(self.memory, 0, Recovering(self.layout))
        self.assertEqual(found, before)


if __name__ == "__main__":
    unittest.main()
