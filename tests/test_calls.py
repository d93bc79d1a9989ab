"""Points [28] to [30]: the accesses of a call alone, what becomes of its cells, and its fields."""

import unittest

from call_support import Calls, items, lasting
from driftkept.calls import KeyCall, machine_of
from driftkept.records import EMPTY
from driftkept.reads import shown_now
from support import Asked, in_kinds, requests_behind, run, run_on, started


class Answers(Calls):
    """Calls that change nothing."""

    def check(self, call, answer, buckets, at):
        """The call reads these buckets; it was shown the word at the place `at` of these readings."""
        count = self.memory.count
        free = self.stores[0].free_cells()
        value, requests = self.whole(call)
        self.assertEqual(in_kinds(value), in_kinds((answer, count + 4 + 2 * at)))
        self.assertEqual(requests, self.entered() + self.looked(*buckets) + self.left(out=False, waits=False))
        self.assertEqual((self.stores[0].free_cells(), self.stores[0].waiting()), (free, []))
        self.assertIsNone(self.memory.peek(self.slot()))

    def setUp(self):
        self.make()
        self.show(0, (0, 5), (4, 6))
        self.show(1, (1, 7))

    def test_look(self):
        self.check(("look", 0), 5, [0], 0)
        self.check(("look", 4), 6, [0], 0)
        self.check(("look", 8), None, [0], 0)
        self.check(("look", 1), 7, [1], 0)
        self.check(("look", -1), None, [3], 0)

    def test_put_take_and_change(self):
        self.check(("put", 4, 6), 6, [0], 0)
        self.check(("take", 2), None, [2], 0)
        self.check(("change", 0, 4, 9), False, [0], 0)
        self.check(("change", 0, 5, 5), True, [0], 0)
        self.check(("change", 3, 0, 9), False, [3], 0)

    def test_move(self):
        self.check(("move", 2, 3), False, [2, 3], 0)
        self.check(("move", 3, 2), False, [2, 3], 1)
        self.check(("move", 0, 1), False, [0, 1], 1)
        self.check(("move", 1, 0), False, [0, 1], 0)
        self.check(("move", 0, 4), False, [0], 0)
        self.check(("move", 8, 4), False, [0], 0)

    def test_puts_over_one_bucket(self):
        self.check(("puts", ((4, 6), (0, 5))), (6, 5), [0], 0)
        self.check(("puts", ((1, 7),)), (7,), [1], 0)

    def test_another_thread_and_number(self):
        for thread in (0, 1):
            count = self.memory.count
            self.assertEqual(run(self.memory, thread, self.call(("look", 0), 9, thread=thread)), (5, count + 4))
            left = self.left(out=False, waits=False, thread=thread)
            expected = self.entered(thread=thread) + self.looked(0) + left
            self.assertEqual(requests_behind(self.memory, count), expected)

    def test_its_own_store_waits_for_something(self):
        self.stores[0].take_out(self.stores[0].take(1))
        self.assertEqual(self.whole(("look", 0))[1], self.entered() + self.looked(0) + self.left())
        value, requests = self.whole(("look", 0))
        self.assertEqual(requests, self.entered(1) + self.looked(0) + self.left(1, out=False))


class Seen(Calls):
    """Calls that change nothing and have seen marks."""

    def setUp(self):
        self.make()
        for index, pair in ((40, (0, 5)), (41, (1, 7)), (42, (2, 8))):
            self.write(self.record(index), items(pair))

    def seen(self, bucket, status, record):
        return [("read", self.words[bucket]), ("read", self.record(status)), ("read", record)]

    def check(self, call, answer, witness, seen, statuses):
        count = self.memory.count
        value, requests = self.whole(call)
        self.assertEqual(value, (answer, witness(count)))
        flushed = lasting(*self.records(*statuses)) if statuses else []
        self.assertEqual(requests, self.entered() + seen + flushed + self.left(out=False, waits=False))
        for index in statuses:
            self.assertEqual(len(self.memory.trail(self.record(index))), 1)

    def test_a_done_deed(self):
        self.write(self.record(30), ("done", 1))
        self.mark(0, 30, 40)
        seen = self.seen(0, 30, self.record(40))
        self.check(("look", 0), 5, lambda count: count + 4, seen, [30])
        self.check(("put", 0, 5), 5, lambda count: count + 4, seen, [30])
        self.check(("take", 4), None, lambda count: count + 4, seen, [30])

    def test_a_deed_that_is_not_done(self):
        for status in (0, ("failed", 1)):
            self.write(self.record(30), status)
            self.mark(0, 30, 40)
            self.check(("look", 0), None, lambda count: count + 4, self.seen(0, 30, self.first[0]), [])

    def test_a_deed_that_is_done_behind_the_reading_of_the_word(self):
        self.write(self.record(30), 0)
        self.mark(0, 30, 40)
        count = self.memory.count
        stack = started(self.memory, 0, self.call(("look", 0)), 4)
        self.memory.access(1, ("decide", self.record(30), "done"))
        self.assertEqual(run_on(self.memory, 0, stack), (5, count + 5))
        own = [request for at, thread, request in self.memory.log() if at > count and thread == 0]
        seen = self.seen(0, 30, self.record(40))
        self.assertEqual(own, self.entered() + seen + lasting(self.record(30)) + self.left(out=False, waits=False))

    def test_two_statuses_are_flushed_in_the_order_of_the_buckets(self):
        self.write(self.record(31), ("done", 1))
        self.write(self.record(30), ("done", 2))
        self.mark(0, 31, 40)
        self.mark(1, 30, 41)
        seen = self.seen(0, 31, self.record(40)) + self.seen(1, 30, self.record(41))
        # The other key is there, and its bucket is the reason; all that was seen is flushed.
        self.check(("move", 0, 1), False, lambda count: count + 7, seen, [31, 30])
        self.check(("move", 1, 0), False, lambda count: count + 4, seen, [31, 30])

    def test_one_deed_over_two_words_is_told_by_both_readings(self):
        self.write(self.record(30), ("done", 1))
        self.mark(0, 30, 40)
        self.mark(1, 30, 41)
        seen = self.seen(0, 30, self.record(40)) + self.seen(1, 30, self.record(41))
        self.check(("move", 0, 1), False, lambda count: count + 7, seen, [30, 30])

    def test_one_word_of_two_has_a_done_deed(self):
        self.write(self.record(30), ("done", 1))
        self.mark(1, 30, 41)
        seen = self.looked(0) + self.seen(1, 30, self.record(41))
        self.check(("move", 0, 1), False, lambda count: count + 4, seen, [30])
        self.check(("take", 5), None, lambda count: count + 4, self.seen(1, 30, self.record(41)), [30])

    def test_a_full_call_flushes_what_it_has_seen(self):
        self.make(free=[6, 8])
        self.write(self.record(40), items((0, 5)))
        self.write(self.record(30), ("done", 1))
        self.mark(0, 30, 40)
        value, requests = self.whole(("put", 0, 6))
        self.assertEqual(value, ("full", None))
        seen = self.seen(0, 30, self.record(40)) + lasting(self.record(30))
        self.assertEqual(requests, self.entered() + seen + self.left(out=False, waits=False))


class Changes(Calls):
    """Calls whose deed is done at once."""

    def check(self, call, answer, rows, number=1):
        """The whole change of a new memory; what it was shown stands in the first records."""
        count = self.memory.count
        buckets = [bucket for bucket, record in rows]
        cells = self.records(*range(4, 4 + 2 * (len(rows) + 2), 2))
        olds = [self.first[bucket] for bucket in buckets]
        self.assertEqual(self.stores[0].free_cells()[:len(cells)], cells)
        free = self.stores[0].free_cells()[len(cells):]
        value, requests = self.whole(call, number)
        before = self.entered() + self.looked(*buckets)
        steps = len(before) + 2 * len(cells) + 1 + 3 + 2 + 2 * len(rows) + 1
        self.assertEqual(in_kinds(value), in_kinds((answer, count + steps)))
        changed = self.changed(answer, rows, cells, number, witness=count + steps)
        self.assertEqual(requests, before + changed + self.left())
        self.assertEqual(self.stores[0].free_cells(), free)
        self.assertEqual(self.stores[0].waiting(), [(0, olds + cells[-2:])])
        self.check_lasting(rows, cells, ("told", number, answer, count + steps))

    def check_lasting(self, rows, cells, slot):
        """Behind its end the words, the slot and the status last, and the new records do."""
        for (bucket, record), cell in zip(rows, cells):
            self.assertEqual(self.memory.trail(self.words[bucket]), [cell])
            self.assertEqual(self.memory.trail(cell), [record])
        self.assertEqual(in_kinds(tuple(self.memory.trail(self.slot()))), in_kinds((slot,)))
        self.assertEqual(self.memory.trail(cells[-2]), [("done", slot[3])])
        self.assertEqual(self.memory.peek(0), 1)

    def test_one_bucket(self):
        self.check(("put", 0, 5), None, [(0, items((0, 5)))])

    def test_one_bucket_that_has_something(self):
        self.show(2, (2, 5), (6, 7))
        self.check(("put", 6, 0), 7, [(2, items((2, 5), (6, 0)))], number=12)

    def test_take(self):
        self.show(3, (3, 5))
        self.check(("take", 3), 5, [(3, EMPTY)])

    def test_change(self):
        self.show(1, (1, 0))
        self.check(("change", 1, 0, 3), True, [(1, items((1, 3)))], number=2)

    def test_move_over_two_buckets(self):
        self.show(2, (2, 5))
        self.check(("move", 2, 0), True, [(0, items((0, 5))), (2, EMPTY)])

    def test_move_within_one_bucket(self):
        self.show(0, (4, 5))
        self.check(("move", 4, 8), True, [(0, items((8, 5)))])

    def test_puts_over_three_buckets(self):
        self.show(1, (1, 5))
        rows = [(0, items((4, 7))), (1, items((1, 8))), (3, items((-1, 9)))]
        self.check(("puts", ((1, 8), (-1, 9), (4, 7))), (5, None, None), rows)

    def test_puts_over_several_buckets_whose_keys_have_their_values(self):
        self.show(0, (0, 5))
        self.show(1, (1, 6))
        self.check(("puts", ((1, 6), (0, 5))), (6, 5), [(0, items((0, 5))), (1, items((1, 6)))])

    def test_a_seen_status_is_not_flushed_by_reading_it(self):
        # The doing of the other deed makes its status last.
        self.write(self.record(30), ("done", 1))
        self.write(self.record(41), items((0, 9)))
        entries = ((self.words[0], self.first[0], self.record(41)),)
        self.write(self.record(50), ("deed", self.record(30), entries, 1, 1, None))
        self.mark(0, 30, 41)
        count = self.memory.count
        other = self.memory.peek(self.record(50))
        cells = self.records(4, 6, 8)
        value, requests = self.whole(("put", 0, 5))
        rows = [(0, items((0, 5)))]
        deed = self.deed(9, rows, cells, olds=[self.record(41)])
        expected = (
            self.entered()
            + [("read", self.words[0]), ("read", self.record(30)), ("read", self.record(41))]
            + self.written(deed, rows, cells)
            + self.slotted(("deed", 1, cells[-1]))
            + self.begun(deed, cells[-1])
            + [("read", self.words[0])]
            + self.begun(other, self.record(50))
            + self.closed(other, self.record(50), 2)
            + self.marked(deed, cells[-1])
            + [("decide", cells[1], "done"), ("read", cells[1])]
            + self.closed(deed, cells[-1], 2)
        )
        witness = count + expected.index(("decide", cells[1], "done")) + 1
        self.assertEqual(value, (9, witness))
        self.assertEqual(requests, expected + self.slotted(("told", 1, 9, witness)) + self.left())

    def test_thread_1(self):
        cells = self.records(5, 7, 9)
        value = run(self.memory, 1, self.call(("put", 0, 5), 3, thread=1))
        self.assertEqual(value, (None, 20))
        self.assertEqual(self.memory.peek(cells[-1]), self.deed(None, [(0, EMPTY)], cells, 3, thread=1))
        self.assertEqual(self.memory.trail(self.slot(1)), [("told", 3, None, 20)])
        self.assertEqual(self.stores[1].waiting(), [(0, [self.first[0]] + cells[1:])])

    def test_calls_one_after_the_other(self):
        for number, value in enumerate((5, 6, 5, 7), 1):
            before = self.memory.count
            answer, witness = self.whole(("put", 0, value), number)[0]
            self.assertEqual(answer, (None, 5, 6, 5)[number - 1])
            self.assertTrue(before < witness < self.memory.count)
            self.assertEqual(self.memory.peek(shown_now(self.memory, 0)), items((0, value)))
        self.assertEqual(self.whole(("look", 0), 5)[0][0], 7)
        self.assertEqual(self.memory.peek(self.slot())[:2], ("told", 4))

    def test_the_last_cells_that_are_free(self):
        self.make(free=[6, 4, 8])
        self.assertEqual(self.whole(("put", 0, 5))[0], (None, 20))
        self.assertEqual(self.stores[0].free_cells(), [])
        self.make(free=[6, 4, 8, 10, 12])
        self.assertEqual(self.whole(("puts", ((0, 5), (1, 6), (2, 7))))[0][0], (None, None, None))
        self.assertEqual(self.stores[0].free_cells(), [])

    def test_the_request_is_the_same_until_a_result_is_accepted(self):
        value, requests = self.whole(("put", 0, 5))
        self.make()
        self.assertEqual(run(self.memory, 0, Asked(self.call(("put", 0, 5)))), value)
        self.assertEqual(requests_behind(self.memory, 0), requests)


class Full(Calls):
    def test_there_are_not_enough_cells(self):
        for free, call, buckets in (
            ([], ("put", 0, 5), [0]),
            ([4, 6], ("put", 0, 5), [0]),
            ([4, 6, 8], ("puts", ((0, 5), (1, 5))), [0, 1]),
            ([4, 6, 8, 10], ("puts", ((0, 5), (1, 5), (2, 5))), [0, 1, 2]),
        ):
            self.make(free=free)
            value, requests = self.whole(call)
            self.assertEqual(value, ("full", None))
            left = self.left(out=False, waits=False)
            self.assertEqual(requests, self.entered() + self.looked(*buckets) + left)
            self.assertEqual(self.stores[0].free_cells(), self.records(*free))
            self.assertEqual(self.stores[0].waiting(), [])
            self.assertIsNone(self.memory.peek(self.slot()))

    def test_what_changes_nothing_needs_no_cells(self):
        self.make(free=[])
        self.assertEqual(self.whole(("look", 0))[0], (None, 4))
        self.assertEqual(self.whole(("take", 0))[0], (None, 10))
        self.assertEqual(self.whole(("move", 0, 1))[0], (False, 16))


class Failing(Calls):
    """Calls whose deed fails once, because another thread changes the word before."""

    cells = (4, 6, 8)

    def begin(self, call, other, free=None, number=1):
        """Let thread 0 come to the doing of its deed, and then thread 1 make a whole call."""
        self.make(free=free)
        self.count = self.memory.count
        stack = started(self.memory, 0, self.call(call, number), 17)
        self.assertEqual(run(self.memory, 1, self.call(other, thread=1))[0], None)
        # The deed of thread 1 has left its own cells behind.
        self.shown = [shown_now(self.memory, index) for index in range(4)]
        self.assertEqual(self.shown[0], self.record(5))
        return stack

    def own(self):
        return [request for at, thread, request in self.memory.log() if at > self.count and thread == 0]

    def first_attempt(self, rows, answer=None, number=1):
        cells = self.records(*self.cells)
        deed = self.deed(answer, rows, cells, number)
        return (
            self.entered()
            + self.looked(0)
            + self.written(deed, rows, cells)
            + self.slotted(("deed", number, cells[-1]))
            + self.begun(deed, cells[-1])
            + [("read", self.words[0]), ("decide", cells[1], "failed"), ("read", cells[1])]
            + self.closed(deed, cells[-1], 1)
        )

    def left_behind(self):
        """Leaving, when thread 1 could not move the epoch before."""
        return [("read", 0), ("write", 1, None), ("read", 0), ("read", 2), ("swap", 0, 1, 2)]

    def test_it_changes_something_at_the_second_attempt(self):
        stack = self.begin(("put", 0, 5), ("put", 4, 7))
        answer, witness = run_on(self.memory, 0, stack)
        self.assertIsNone(answer)
        # The cell of the new record was given back; the status and the deed were not.
        again = self.records(4, 10, 12)
        rows = [(0, items((0, 5), (4, 7)))]
        expected = (
            self.first_attempt([(0, items((0, 5)))])
            + self.looked(0, at=self.shown)
            + self.changed(None, rows, again, witness=witness, olds=self.shown)
            + self.left_behind()
        )
        self.assertEqual(self.own(), expected)
        out = self.records(6, 8) + [self.shown[0]] + again[1:]
        self.assertEqual(self.stores[0].waiting(), [(1, out)])
        self.assertEqual(self.stores[0].free_cells()[0], self.record(14))
        self.assertEqual(self.memory.trail(self.slot()), [("told", 1, None, witness)])
        self.assertEqual(self.memory.trail(self.words[0]), [self.record(4)])
        self.assertEqual(self.memory.trail(self.record(6))[0][0], "failed")

    def test_the_cells_between_its_accesses(self):
        stack = self.begin(("put", 0, 5), ("put", 4, 7))
        free = self.stores[0].free_cells()
        self.assertEqual(free[0], self.record(10))
        behind = self.first_attempt([(0, items((0, 5)))])
        seen = []
        while not stack.ended():
            before = len(self.own())
            stack.step(self.memory, 0)
            seen.append((before + 1, self.stores[0].free_cells()[0], self.stores[0].waiting()))
        slot = len(behind) + 2 + 7 + 3
        for at, least, waiting in seen:
            # The record cell is given back with the end of the doing, and taken for the next attempt.
            expected = self.record(4 if len(behind) <= at < len(behind) + 2 else 10 if at < len(behind) else 14)
            self.assertEqual(least, expected, at)
            if at < slot:
                self.assertEqual(waiting, [], at)
            elif at < len(self.own()) - 7:
                self.assertEqual(waiting, [(None, self.records(6, 8))], at)

    def test_it_finds_nothing_to_change_at_the_second_attempt(self):
        stack = self.begin(("put", 0, 5), ("put", 0, 5), number=3)
        count = self.memory.count
        answer, witness = run_on(self.memory, 0, stack)
        attempt = self.first_attempt([(0, items((0, 5)))], number=3)
        self.assertEqual((answer, witness), (5, count + len(attempt) - 17 + 1))
        expected = (
            attempt
            + self.looked(0, at=self.shown)
            + self.slotted(("undone", 3))
            + self.left_behind()
        )
        self.assertEqual(self.own(), expected)
        self.assertEqual(self.stores[0].waiting(), [(1, self.records(6, 8))])
        self.assertEqual(self.stores[0].free_cells()[:2], self.records(4, 10))
        self.assertEqual(self.memory.trail(self.slot()), [("undone", 3)])

    def test_it_takes_out_only_behind_the_fence_of_the_slot(self):
        stack = self.begin(("put", 0, 5), ("put", 0, 5))
        end = len(self.first_attempt([(0, items((0, 5)))])) + 2 + 3
        while len(self.own()) < end:
            self.assertEqual(self.stores[0].waiting(), [])
            stack.step(self.memory, 0)
        self.assertEqual(self.stores[0].waiting(), [(None, self.records(6, 8))])

    def test_it_is_full_at_the_second_attempt(self):
        stack = self.begin(("put", 0, 5), ("put", 4, 7), free=self.cells)
        self.assertEqual(run_on(self.memory, 0, stack), ("full", None))
        expected = (
            self.first_attempt([(0, items((0, 5)))])
            + self.looked(0, at=self.shown)
            + self.slotted(("undone", 1))
            + self.left_behind()
        )
        self.assertEqual(self.own(), expected)
        self.assertEqual(self.stores[0].free_cells(), self.records(4))
        self.assertEqual(self.stores[0].waiting(), [(1, self.records(6, 8))])

    def test_what_it_has_seen_is_flushed_before_undone_is_written(self):
        stack = self.begin(("put", 0, 5), ("put", 4, 7))
        # Behind the failing of its deed a mark of thread 1 comes into the word.
        for _ in range(len(self.first_attempt([(0, items((0, 5)))])) - 17):
            stack.step(self.memory, 0)
        self.write(self.record(31), items((0, 5)))
        self.write(self.record(33), ("done", 1))
        self.mark(0, 33, 31, old=self.shown[0])
        self.assertEqual(run_on(self.memory, 0, stack)[0], 5)
        expected = (
            self.first_attempt([(0, items((0, 5)))])
            + [("read", self.words[0]), ("read", self.record(33)), ("read", self.record(31))]
            + lasting(self.record(33))
            + self.slotted(("undone", 1))
            + self.left_behind()
        )
        self.assertEqual(self.own(), expected)

    def test_what_an_attempt_before_has_seen_is_not_flushed(self):
        self.make()
        self.write(self.record(41), items((0, 9)))
        self.write(self.record(30), ("done", 1))
        entries = ((self.words[0], self.first[0], self.record(41)),)
        self.write(self.record(50), ("deed", self.record(30), entries, 1, 1, None))
        self.mark(0, 30, 41)
        stack = started(self.memory, 0, self.call(("put", 0, 5)), 18)
        run(self.memory, 1, self.call(("put", 0, 5), thread=1))
        count = self.memory.count
        self.assertEqual(run_on(self.memory, 0, stack)[0], 5)
        behind = requests_behind(self.memory, count)
        again = behind.index(("read", shown_now(self.memory, 0))) + 1
        self.assertEqual(behind[again:again + 3], self.slotted(("undone", 1)))

    def test_two_attempts_that_fail(self):
        stack = self.begin(("put", 0, 5), ("put", 4, 7))
        for _ in range(len(self.first_attempt([(0, items((0, 5)))])) - 17 + 2 + 7 + 3):
            stack.step(self.memory, 0)
        # What the first attempt left is taken out when the slot leads to the second one.
        self.assertEqual(self.stores[0].waiting(), [(None, self.records(6, 8))])
        run(self.memory, 1, self.call(("put", 8, 9), 2, thread=1))
        answer, witness = run_on(self.memory, 0, stack)
        self.assertIsNone(answer)
        out = self.records(6, 8, 10, 12)
        self.assertEqual(self.stores[0].waiting()[0][1][:4], out)
        self.assertEqual(self.memory.peek(shown_now(self.memory, 0)), items((0, 5), (4, 7), (8, 9)))

    def test_a_status_of_two_words_that_fails_gives_both_records_back(self):
        self.make()
        stack = started(self.memory, 0, self.call(("puts", ((0, 5), (1, 6)))), 22)
        run(self.memory, 1, self.call(("put", 5, 7), thread=1))
        free = self.stores[0].free_cells()
        while self.stores[0].free_cells() == free:
            stack.step(self.memory, 0)
        self.assertEqual(self.stores[0].free_cells(), self.records(4, 6) + free)


class Fields(Calls):
    def watch(self, machine, others=None):
        """The fields of a call behind each of its accesses, with the requests."""
        stack = started(self.memory, 0, machine, 0)
        seen = []
        while not stack.ended():
            if others:
                others(len(seen))
            stack.step(self.memory, 0)
            seen.append((self.memory.log()[-1][2], machine.done, machine.status))
        return seen

    def test_when_it_is_created(self):
        for without in range(8):
            machine = KeyCall(self.stores[0], ("look", 0), 1, without)
            self.assertEqual((vars(machine)["done"], vars(machine)["status"]), (None, None))

    def test_a_call_that_changes_nothing(self):
        for call in (("look", 0), ("take", 0)):
            for request, done, status in self.watch(self.call(call)):
                self.assertEqual((done, status), (None, None))

    def test_a_call_whose_deed_is_done(self):
        seen = self.watch(self.call(("put", 0, 5)))
        requests = [request for request, done, status in seen]
        fences = [at for at, request in enumerate(requests) if request == ("fence",)]
        # The fences: of the cells, of the slot, of the status, of the words, of the slot.
        self.assertEqual(len(fences), 5)
        for at, (request, done, status) in enumerate(seen):
            self.assertEqual(status, self.record(6) if fences[1] <= at < fences[3] else None, at)
            self.assertEqual(done, 20 if at >= fences[3] else None, at)

    def test_a_call_whose_deed_failed_once(self):
        def others(accesses):
            if accesses == 17:
                run(self.memory, 1, self.call(("put", 4, 7), thread=1))

        machine = self.call(("put", 0, 5))
        seen = self.watch(machine, others)
        fences = [at for at, (request, done, status) in enumerate(seen) if request == ("fence",)]
        self.assertEqual(len(fences), 9)
        for at, (request, done, status) in enumerate(seen):
            first, second = fences[1] <= at < fences[3], fences[5] <= at < fences[7]
            self.assertEqual(status, self.record(6) if first else self.record(10) if second else None, at)
            self.assertEqual(done is not None, at >= fences[7], at)
        self.assertEqual(self.memory.peek(self.record(10)), ("done", machine.done))

    def test_a_deed_that_a_helper_does(self):
        machine = self.call(("put", 0, 5))
        stack = started(self.memory, 0, machine, 19)
        self.assertEqual(run(self.memory, 1, self.call(("put", 4, 7), thread=1))[0], None)
        self.assertEqual(self.memory.peek(machine.status)[0], "done")
        self.assertIsNone(machine.done)
        answer, witness = run_on(self.memory, 0, stack)
        self.assertEqual(self.memory.peek(self.record(6)), ("done", witness))
        self.assertEqual(machine.done, witness)

    def test_machine_of(self):
        for without in (0, 3):
            machine = machine_of(self.stores[0], ("put", 0, 5), 4, without)
            self.assertIsInstance(machine, KeyCall)
            self.make()
            stack = started(self.memory, 0, machine_of(self.stores[0], ("put", 0, 5), 4, without), 0)
            run_on(self.memory, 0, stack)
            mine = self.memory.log()
            self.make()
            run(self.memory, 0, KeyCall(self.stores[0], ("put", 0, 5), 4, without))
            self.assertEqual(self.memory.log(), mine)

    def test_the_arguments_are_not_looked_at(self):
        for call in (("look", True), ("shout", 0), None, 3):
            machine = KeyCall(self.stores[0], call, None, 99)
            self.assertEqual(machine.request()[0], "call")


class NoRecords(Calls):
    """Words that show what is no record, as a store that leaves something out may."""

    def test_a_call_goes_on_as_if_there_was_nothing(self):
        for value in (None, 0, ("done", 3), items((1, 5)), "items"):
            self.make()
            self.write(self.first[0], value)
            self.assertEqual(self.whole(("look", 0))[0], (None, 5))
            self.assertEqual(self.whole(("put", 0, 5), 2)[0][0], None)
            self.assertEqual(self.memory.peek(shown_now(self.memory, 0)), items((0, 5)))


if __name__ == "__main__":
    unittest.main()
