"""Points [13] and [14]: deeds, and how they are done."""

import unittest

from driftkept.deeds import Doing, deed_record
from driftkept.errors import NotValid
from driftkept.machines import Stack
from driftkept.reads import shown_now
from support import a_memory, in_kinds, requests_behind, run, run_on, started, told, write_lasting


class Records(unittest.TestCase):
    entries = [(5, 9, 12), (6, 10, 13)]
    expected = ("deed", 20, ((5, 9, 12), (6, 10, 13)), 1, 3, (None, 7))

    def test_entries_in_a_list_or_a_tuple(self):
        for entries in (self.entries, tuple(self.entries)):
            self.assertEqual(in_kinds(deed_record(20, entries, 1, 3, (None, 7))), in_kinds(self.expected))

    def test_one_entry_and_four(self):
        self.assertEqual(deed_record(8, [(4, 8, 9)], 0, 1, None), ("deed", 8, ((4, 8, 9),), 0, 1, None))
        four = [(cell, cell + 4, cell + 9) for cell in (5, 6, 7, 8)]
        self.assertEqual(deed_record(30, four, 2, 9, True), ("deed", 30, tuple(four), 2, 9, True))

    def test_the_answer_is_kept_as_it_is(self):
        for answer in (True, False, None, 0, 1, (1, None)):
            record = deed_record(8, [(4, 8, 9)], 0, 1, answer)
            self.assertEqual(in_kinds(record[5]), in_kinds(answer))

    def test_entries_that_are_changed_afterwards(self):
        entries = list(self.entries)
        record = deed_record(20, entries, 1, 3, (None, 7))
        self.assertEqual(entries, self.entries)
        entries.append((7, 11, 14))
        entries[0] = (4, 8, 15)
        self.assertEqual(record, self.expected)

    def test_no_entry(self):
        for entries in ([], ()):
            with self.assertRaises(NotValid):
                deed_record(20, entries, 1, 3, None)

    def test_cells_that_do_not_ascend_strictly(self):
        for cells in ((6, 5), (5, 5), (5, 6, 6), (6, 5, 7), (5, 7, 6), (4, 5, 6, 4)):
            entries = [(cell, 9 + at, 20 + at) for at, cell in enumerate(cells)]
            for passed in (entries, tuple(entries)):
                with self.assertRaises(NotValid):
                    deed_record(40, passed, 1, 3, None)


class Deeds(unittest.TestCase):
    """A memory of three threads and four words, into which deeds can be written."""

    def setUp(self):
        self.memory = a_memory(threads=3, words=4, records=60)
        self.layout = self.memory.layout
        self.words = [self.layout.word(index) for index in range(4)]
        self.first = [self.layout.record(index) for index in range(4)]
        self.used = 4

    def fresh(self):
        self.used += 1
        return self.layout.record(self.used - 1)

    def write(self, cell, value):
        self.memory.access(2, ("write", cell, value))

    def deed(self, olds):
        """Write a deed over the words with these indexes, from these addresses; all of it lasts."""
        entries = [(self.words[index], old, self.fresh()) for index, old in sorted(olds.items())]
        status, address = self.fresh(), self.fresh()
        write_lasting(self.memory, 2, status, 0)
        write_lasting(self.memory, 2, address, deed_record(status, entries, 2, 1, None))
        return Deed(address, status, entries)

    def plain(self, many):
        return self.deed({index: self.first[index] for index in range(many)})

    def run_from_here(self, machine):
        """The value of a machine that thread 0 runs alone, and its requests."""
        count = self.memory.count
        value = run(self.memory, 0, machine)
        return value, requests_behind(self.memory, count)

    def shown(self):
        return [shown_now(self.memory, index) for index in range(4)]

    def held(self):
        return [self.memory.peek(word) for word in self.words]


class Deed:
    """A deed, and the accesses of its steps as the document tells them."""

    def __init__(self, address, status, entries):
        self.address = address
        self.status = status
        self.entries = entries
        self.cells = [entry[0] for entry in entries]
        self.news = [entry[2] for entry in entries]

    def mark(self, at):
        return (self.address, self.status) + self.entries[at][1:]

    def begun(self):
        return [("read", self.address), ("read", self.status)]

    def taken(self, at):
        cell, old = self.entries[at][:2]
        return [("read", cell), ("swap", cell, old, self.mark(at))]

    def met(self, at):
        return [("read", self.cells[at])]

    def decided(self, word):
        return [("decide", self.status, word), ("read", self.status)]

    def lasting(self):
        return [("flush", self.status), ("fence",)]

    def cleaned(self, part):
        return [("swap", cell, self.mark(at), self.entries[at][part]) for at, cell in enumerate(self.cells)]

    def flushed(self):
        return [("flush", cell) for cell in self.cells] + [("fence",)]

    def closed(self, part):
        return self.lasting() + self.cleaned(part) + self.flushed()

    def whole(self):
        taken = [request for at in range(len(self.entries)) for request in self.taken(at)]
        return self.begun() + taken + self.decided("done") + self.closed(2)


class Alone(Deeds):
    def test_the_example_of_the_interface(self):
        deed = self.plain(2)
        count = self.memory.count
        value, requests = self.run_from_here(Doing(deed.address))
        self.assertEqual(len(requests), 15)
        kinds = "read read read swap read swap decide read flush fence swap swap flush flush fence"
        self.assertEqual([request[0] for request in requests], kinds.split())
        self.assertEqual(requests, deed.whole())
        self.assertEqual(value, ("done", count + 7))
        self.assertEqual(self.memory.peek(deed.status), value)
        self.assertEqual(self.held(), deed.news + self.first[2:])

    def test_one_to_four_entries(self):
        for many in (1, 2, 3, 4):
            self.setUp()
            deed = self.plain(many)
            count = self.memory.count
            value, requests = self.run_from_here(Doing(deed.address))
            self.assertEqual(requests, deed.whole())
            self.assertEqual(len(requests), 7 + 4 * many)
            self.assertEqual(value, ("done", count + 3 + 2 * many))
            self.assertEqual(self.held(), deed.news + self.first[many:])

    def test_words_that_are_not_the_first_ones(self):
        deed = self.deed({1: self.first[1], 3: self.first[3]})
        requests = self.run_from_here(Doing(deed.address))[1]
        self.assertEqual(requests, deed.whole())
        self.assertEqual(self.held(), [self.first[0], deed.news[0], self.first[2], deed.news[1]])

    def test_all_of_it_lasts_when_it_has_ended(self):
        deed = self.plain(3)
        run(self.memory, 0, Doing(deed.address))
        self.assertEqual([self.memory.trail(word) for word in deed.cells], [[new] for new in deed.news])
        self.assertEqual(len(self.memory.trail(deed.status)), 1)

    def test_the_request_is_the_same_until_a_result_is_accepted(self):
        deed = self.plain(2)
        machine = Doing(deed.address)
        for request in deed.whole():
            before = told(self.memory)
            self.assertEqual([machine.request(), machine.request()], [request, request])
            self.assertEqual(told(self.memory), before)
            machine.accept(self.memory.access(0, request))
        self.assertEqual(machine.request(), ("end", self.memory.peek(deed.status)))
        self.assertEqual(machine.request(), ("end", self.memory.peek(deed.status)))

    def test_the_call_that_does_another_deed_is_the_same_until_it_has_ended(self):
        other, deed = self.plain(1), self.plain(1)
        self.write(self.words[0], other.mark(0))
        machine = Doing(deed.address)
        for _ in range(3):
            machine.accept(self.memory.access(0, machine.request()))
        first, second = machine.request(), machine.request()
        self.assertEqual(first[0], "call")
        self.assertIs(first[1], second[1])


class Failing(Deeds):
    def test_the_second_word_does_not_hold_its_old_address(self):
        deed = self.deed({0: self.first[0], 1: self.first[2], 2: self.first[2]})
        count = self.memory.count
        value, requests = self.run_from_here(Doing(deed.address))
        expected = deed.begun() + deed.taken(0) + deed.met(1) + deed.decided("failed") + deed.closed(1)
        self.assertEqual(requests, expected)
        self.assertEqual(value, ("failed", count + 6))
        self.assertEqual(self.held(), self.first)
        self.assertEqual(self.memory.trail(self.words[0]), [self.first[0]])

    def test_the_first_word_does_not_hold_its_old_address(self):
        deed = self.deed({0: self.first[1], 1: self.first[1]})
        value, requests = self.run_from_here(Doing(deed.address))
        self.assertEqual(requests, deed.begun() + deed.met(0) + deed.decided("failed") + deed.closed(1))
        self.assertEqual(value[0], "failed")
        self.assertEqual(self.held(), self.first)

    def test_a_word_that_holds_the_new_address_already(self):
        deed = self.plain(1)
        self.write(self.words[0], deed.news[0])
        self.assertEqual(self.run_from_here(Doing(deed.address))[0][0], "failed")
        self.assertEqual(self.held()[0], deed.news[0])


class Decided(Deeds):
    def test_a_deed_that_is_done_already(self):
        deed = self.plain(3)
        self.write(deed.status, ("done", 3))
        self.write(self.words[0], deed.mark(0))
        self.write(self.words[1], deed.news[1])
        value, requests = self.run_from_here(Doing(deed.address))
        self.assertEqual(value, ("done", 3))
        self.assertEqual(requests, deed.begun() + deed.closed(2))
        # A deed that is done puts no mark into a word again, and cleans only its own.
        self.assertEqual(self.held(), [deed.news[0], deed.news[1], self.first[2], self.first[3]])

    def test_a_deed_that_failed_already(self):
        deed = self.plain(2)
        self.write(deed.status, ("failed", 3))
        self.write(self.words[1], deed.mark(1))
        value, requests = self.run_from_here(Doing(deed.address))
        self.assertEqual(value, ("failed", 3))
        self.assertEqual(requests, deed.begun() + deed.closed(1))
        self.assertEqual(self.held(), self.first)

    def test_it_is_decided_once(self):
        deed = self.plain(2)
        stack = started(self.memory, 0, Doing(deed.address), 6)
        self.write(self.words[0], self.first[3])
        late = started(self.memory, 1, Doing(deed.address), 0)
        self.assertEqual(run_on(self.memory, 1, late)[0], "failed")
        count = self.memory.count
        self.assertEqual(run_on(self.memory, 0, stack), self.memory.peek(deed.status))
        self.assertEqual(requests_behind(self.memory, count), deed.decided("done") + deed.closed(1))
        self.assertEqual(self.memory.peek(deed.status)[0], "failed")
        self.assertEqual(self.held()[1], self.first[1])


class Meeting(Deeds):
    """What a word can hold that an entry comes to."""

    def test_the_mark_of_this_deed(self):
        deed = self.plain(2)
        self.write(self.words[0], deed.mark(0))
        value, requests = self.run_from_here(Doing(deed.address))
        expected = deed.begun() + deed.met(0) + deed.taken(1) + deed.decided("done") + deed.closed(2)
        self.assertEqual(requests, expected)
        self.assertEqual(value[0], "done")

    def test_a_swap_that_another_thread_forestalls_with_the_same_mark(self):
        deed = self.plain(2)
        stack = started(self.memory, 0, Doing(deed.address), 3)
        other = started(self.memory, 1, Doing(deed.address), 4)
        count = self.memory.count
        value = run_on(self.memory, 0, stack)
        expected = deed.taken(0)[1:] + deed.met(0) + deed.taken(1) + deed.decided("done") + deed.closed(2)
        self.assertEqual(requests_behind(self.memory, count), expected)
        self.assertEqual(run_on(self.memory, 1, other), value)
        self.assertEqual(self.held()[:2], deed.news)

    def test_a_swap_that_another_address_forestalls(self):
        deed = self.plain(2)
        stack = started(self.memory, 0, Doing(deed.address), 5)
        self.write(self.words[1], self.first[3])
        count = self.memory.count
        self.assertEqual(run_on(self.memory, 0, stack)[0], "failed")
        expected = deed.taken(1)[1:] + deed.met(1) + deed.decided("failed") + deed.closed(1)
        self.assertEqual(requests_behind(self.memory, count), expected)
        self.assertEqual(self.held()[:2], [self.first[0], self.first[3]])

    def test_a_swap_that_fails_and_the_old_address_again(self):
        deed = self.plain(1)
        stack = started(self.memory, 0, Doing(deed.address), 3)
        self.write(self.words[0], self.first[3])
        stack.step(self.memory, 0)
        self.write(self.words[0], self.first[0])
        count = self.memory.count
        self.assertEqual(run_on(self.memory, 0, stack)[0], "done")
        expected = deed.taken(0) + deed.decided("done") + deed.closed(2)
        self.assertEqual(requests_behind(self.memory, count), expected)

    def test_the_mark_of_another_deed_that_is_done_first(self):
        other = self.plain(2)
        deed = self.deed({1: other.news[1], 2: self.first[2]})
        self.write(self.words[1], other.mark(1))
        value, requests = self.run_from_here(Doing(deed.address))
        helped = other.begun() + other.taken(0) + other.met(1) + other.decided("done") + other.closed(2)
        own = deed.taken(0) + deed.taken(1) + deed.decided("done") + deed.closed(2)
        self.assertEqual(requests, deed.begun() + deed.met(0) + helped + own)
        self.assertEqual(value[0], "done")
        self.assertEqual(self.held(), [other.news[0], deed.news[0], deed.news[1], self.first[3]])

    def test_another_deed_that_is_done_first_and_takes_the_old_address_away(self):
        other, deed = self.plain(1), self.plain(2)
        self.write(self.words[0], other.mark(0))
        value, requests = self.run_from_here(Doing(deed.address))
        helped = other.begun() + other.met(0) + other.decided("done") + other.closed(2)
        own = deed.met(0) + deed.decided("failed") + deed.closed(1)
        self.assertEqual(requests, deed.begun() + deed.met(0) + helped + own)
        self.assertEqual(value[0], "failed")
        self.assertEqual(self.held()[:2], [other.news[0], self.first[1]])

    def test_the_mark_of_another_deed_that_failed(self):
        other, deed = self.plain(1), self.plain(1)
        self.write(other.status, ("failed", 1))
        self.write(self.words[0], other.mark(0))
        value, requests = self.run_from_here(Doing(deed.address))
        own = deed.taken(0) + deed.decided("done") + deed.closed(2)
        self.assertEqual(requests, deed.begun() + deed.met(0) + other.begun() + other.closed(1) + own)
        self.assertEqual(value[0], "done")

    def test_deeds_that_lead_to_deeds(self):
        last = self.deed({2: self.first[2]})
        middle = self.deed({1: self.first[1], 2: last.news[0]})
        deed = self.deed({0: self.first[0], 1: middle.news[0]})
        self.write(self.words[2], last.mark(0))
        self.write(self.words[1], middle.mark(0))
        value, requests = self.run_from_here(Doing(deed.address))
        deepest = last.begun() + last.met(0) + last.decided("done") + last.closed(2)
        between = middle.begun() + middle.met(0) + middle.met(1) + deepest
        between = between + middle.taken(1) + middle.decided("done") + middle.closed(2)
        expected = deed.begun() + deed.taken(0) + deed.met(1) + between
        self.assertEqual(requests, expected + deed.taken(1) + deed.decided("done") + deed.closed(2))
        self.assertEqual(value[0], "done")
        self.assertEqual(self.held(), [*deed.news, middle.news[1], self.first[3]])

    def test_a_cleaning_swap_that_is_passed_over(self):
        deed = self.plain(2)
        stack = started(self.memory, 0, Doing(deed.address), 8)
        self.assertEqual(run(self.memory, 1, Doing(deed.address))[0], "done")
        later = self.deed({0: deed.news[0]})
        self.assertEqual(run(self.memory, 1, Doing(later.address))[0], "done")
        count = self.memory.count
        run_on(self.memory, 0, stack)
        self.assertEqual(requests_behind(self.memory, count), deed.closed(2))
        self.assertEqual(self.held()[:2], [later.news[0], deed.news[1]])

    def test_a_late_helper_puts_the_mark_of_a_failed_deed_back_and_cleans_it(self):
        deed = self.deed({0: self.first[0], 1: self.first[3]})
        helper = started(self.memory, 1, Doing(deed.address), 3)
        self.assertEqual(run(self.memory, 0, Doing(deed.address))[0], "failed")
        self.assertEqual(self.held(), self.first)
        helper.step(self.memory, 1)
        self.assertEqual(self.held()[0], deed.mark(0))
        self.assertEqual(self.shown(), self.first)
        count = self.memory.count
        self.assertEqual(run_on(self.memory, 1, helper), self.memory.peek(deed.status))
        expected = deed.met(1) + deed.decided("failed") + deed.closed(1)
        self.assertEqual(requests_behind(self.memory, count), expected)
        self.assertEqual(self.held(), self.first)

    def test_whoever_meets_such_a_mark_cleans_it(self):
        deed = self.deed({0: self.first[0], 1: self.first[3]})
        helper = started(self.memory, 1, Doing(deed.address), 3)
        run(self.memory, 0, Doing(deed.address))
        helper.step(self.memory, 1)
        other = self.plain(1)
        count = self.memory.count
        self.assertEqual(run(self.memory, 0, Doing(other.address))[0], "done")
        helped = deed.begun() + deed.closed(1)
        own = other.taken(0) + other.decided("done") + other.closed(2)
        self.assertEqual(requests_behind(self.memory, count), other.begun() + other.met(0) + helped + own)
        run_on(self.memory, 1, helper)
        self.assertEqual(self.held()[0], other.news[0])


class Without(Deeds):
    def check(self, without, changed):
        for word, part in (("done", 2), ("failed", 1)):
            self.setUp()
            other = self.deed({3: self.first[3]})
            deed = self.deed({0: self.first[0], 3: other.news[0] if part == 2 else self.first[3]})
            self.write(self.words[3], other.mark(0))
            value, requests = self.run_from_here(Doing(deed.address, without))
            helped = other.begun() + other.met(0) + other.decided("done") + changed(other, 2)
            again = deed.taken(1) if part == 2 else deed.met(1)
            own = deed.taken(0) + deed.met(1) + helped + again + deed.decided(word)
            self.assertEqual(requests, deed.begun() + own + changed(deed, part))
            self.assertEqual(value, self.memory.peek(deed.status))

    def test_4_leaves_the_flushing_of_the_status_out(self):
        self.check(4, lambda deed, part: deed.cleaned(part) + deed.flushed())

    def test_5_leaves_the_flushing_of_the_words_out(self):
        self.check(5, lambda deed, part: deed.lasting() + deed.cleaned(part))

    def test_otherwise_it_is_as_told(self):
        for without in (0, 1, 2, 3, 6, 7):
            self.check(without, lambda deed, part: deed.closed(part))

    def test_by_name_and_for_a_decided_deed(self):
        deed = self.plain(2)
        self.write(deed.status, ("done", 1))
        requests = self.run_from_here(Doing(address=deed.address, without=4))[1]
        self.assertEqual(requests, deed.begun() + deed.cleaned(2) + deed.flushed())
        requests = self.run_from_here(Doing(address=deed.address, without=5))[1]
        self.assertEqual(requests, deed.begun() + deed.lasting() + deed.cleaned(2))


if __name__ == "__main__":
    unittest.main()
