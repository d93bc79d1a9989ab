"""Points [10] to [12]: reading words."""

import unittest

from driftkept.machines import Stack
from driftkept.memory import Layout, Memory
from driftkept.reads import Shown, shown_now
from support import a_memory, requests_behind, run, started, told


class Words(unittest.TestCase):
    """A memory of two threads with a mark that can be put into the word 1."""

    def setUp(self):
        self.memory = a_memory(threads=2, words=3, records=9)
        layout = self.memory.layout
        self.word = layout.word(1)
        self.old, self.new = layout.record(1), layout.record(3)
        self.status, self.deed = layout.record(4), layout.record(5)
        self.mark = (self.deed, self.status, self.old, self.new)

    def write(self, cell, value):
        return self.memory.access(0, ("write", cell, value))[1]

    def shown(self):
        return Shown(self.memory.layout, 1)

    def put(self, mark, status):
        self.write(self.status, status)
        self.write(self.word, mark)

    def pass_by(self, accesses):
        for _ in range(accesses):
            self.memory.access(0, ("fence",))


class Readings(Words):
    def check(self, expected, requests):
        count = self.memory.count
        self.assertEqual(run(self.memory, 1, self.shown()), expected)
        self.assertEqual(requests_behind(self.memory, count), requests)
        self.assertEqual({thread for at, thread, request in self.memory.log() if at > count}, {1})

    def test_a_word_with_an_address(self):
        self.check((self.old, 1, None), [("read", self.word)])
        self.write(self.word, self.new)
        self.check((self.new, 3, None), [("read", self.word)])

    def test_each_word_is_read_where_it_is(self):
        for words in (1, 2, 4):
            memory = Memory(Layout(3, words, 9))
            for index in range(words):
                count = memory.count
                expected = (memory.layout.record(index), count + 1, None)
                self.assertEqual(run(memory, 2, Shown(memory.layout, index)), expected)
                self.assertEqual(requests_behind(memory, count), [("read", memory.layout.word(index))])

    def test_a_mark_whose_status_is_undecided(self):
        self.put(self.mark, 0)
        self.check((self.old, 3, None), [("read", self.word), ("read", self.status)])

    def test_a_mark_whose_deed_failed(self):
        self.put(self.mark, ("failed", 1))
        self.check((self.old, 3, None), [("read", self.word), ("read", self.status)])
        self.put(self.mark, ("failed", 900))
        self.check((self.old, 7, None), [("read", self.word), ("read", self.status)])

    def test_a_mark_whose_deed_was_done_before(self):
        self.put(self.mark, ("done", 1))
        self.pass_by(4)
        self.check((self.new, 7, self.status), [("read", self.word), ("read", self.status)])

    def test_a_mark_whose_deed_was_done_at_the_reading_or_behind_it(self):
        for ahead, expected in ((-1, 0), (0, 0), (1, 1), (50, 50)):
            count = self.memory.count
            self.put(self.mark, ("done", count + 3 + ahead))
            expected = (self.new, count + 3 + expected, self.status)
            self.check(expected, [("read", self.word), ("read", self.status)])

    def test_a_reading_changes_nothing(self):
        for status in (0, ("done", 1), ("failed", 1)):
            self.put(self.mark, status)
            before = told(self.memory)
            run(self.memory, 1, self.shown())
            self.assertEqual(told(self.memory)[2:], before[2:])

    def test_the_request_is_the_same_until_a_result_is_accepted(self):
        self.put(self.mark, 0)
        machine = self.shown()
        before = told(self.memory)
        for request in (("read", self.word), ("read", self.status)):
            self.assertEqual([machine.request(), machine.request()], [request, request])
            self.assertEqual(told(self.memory), before)
            machine.accept(self.memory.access(1, request))
            before = told(self.memory)
        self.assertEqual([machine.request()] * 2, [("end", (self.old, 3, None))] * 2)


class Changes(Words):
    """Words and statuses that change between the two accesses of a reading."""

    def test_a_word_that_changes(self):
        self.put(self.mark, 0)
        stack = started(self.memory, 1, self.shown(), 1)
        self.write(self.word, self.new)
        stack.step(self.memory, 1)
        self.assertEqual(stack.value(), (self.old, 3, None))
        self.assertEqual(requests_behind(self.memory, 4), [("read", self.status)])

    def test_a_status_that_is_decided_as_done(self):
        self.put(self.mark, 0)
        stack = started(self.memory, 1, self.shown(), 1)
        self.pass_by(2)
        self.assertEqual(self.memory.access(0, ("decide", self.status, "done")), (True, 6))
        self.pass_by(2)
        stack.step(self.memory, 1)
        self.assertEqual(stack.value(), (self.new, 6, self.status))

    def test_a_status_that_is_decided_as_failed(self):
        self.put(self.mark, 0)
        stack = started(self.memory, 1, self.shown(), 1)
        self.memory.access(0, ("decide", self.status, "failed"))
        stack.step(self.memory, 1)
        self.assertEqual(stack.value(), (self.old, 3, None))

    def test_a_word_and_its_status_that_change(self):
        self.put(self.mark, 0)
        stack = started(self.memory, 1, self.shown(), 1)
        self.memory.access(0, ("decide", self.status, "done"))
        self.memory.access(0, ("swap", self.word, self.mark, self.new))
        stack.step(self.memory, 1)
        self.assertEqual(stack.value(), (self.new, 4, self.status))

    def test_a_word_that_gets_a_mark_behind_its_reading(self):
        stack = Stack(self.shown())
        stack.step(self.memory, 1)
        self.put(self.mark, ("done", 2))
        self.assertEqual(stack.value(), (self.old, 1, None))
        self.assertIs(stack.step(self.memory, 1), False)

    def test_what_is_told_was_shown_at_the_access(self):
        # The status is decided before, between or behind the accesses of the reading.
        for decided in range(4):
            for word in ("done", "failed"):
                self.setUp()
                self.put(self.mark, 0)
                shown, stack = {}, Stack(self.shown())
                for at in range(4):
                    if at == decided:
                        self.memory.access(0, ("decide", self.status, word))
                        shown[self.memory.count] = shown_now(self.memory, 1)
                    stack.step(self.memory, 1)
                    shown[self.memory.count] = shown_now(self.memory, 1)
                address, access, status = stack.value()
                self.assertEqual(shown[access], address)
                self.assertEqual(status, self.status if address == self.new else None)


class Now(Words):
    def test_shown_now(self):
        self.assertEqual(shown_now(self.memory, 1), self.old)
        for status, expected in ((0, self.old), (("failed", 1), self.old), (("done", 1), self.new)):
            self.put(self.mark, status)
            self.assertEqual(shown_now(self.memory, 1), expected)
        self.write(self.word, self.new)
        self.assertEqual(shown_now(self.memory, 1), self.new)
        self.assertEqual(shown_now(self.memory, 0), self.memory.layout.record(0))
        self.assertEqual(shown_now(self.memory, 2), self.memory.layout.record(2))

    def test_shown_now_makes_no_access(self):
        for status in (0, ("failed", 1), ("done", 1)):
            self.put(self.mark, status)
            before = told(self.memory)
            shown_now(self.memory, 0)
            shown_now(self.memory, 1)
            self.assertEqual(told(self.memory), before)


if __name__ == "__main__":
    unittest.main()
