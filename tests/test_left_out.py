"""Point [31]: what a call leaves out, and that it leaves out nothing else."""

import unittest

from call_support import Calls, items
from support import run, run_on, started

PLACES = range(8)


class Told:
    """The accesses of thread 0, and for each of them the place by which it is left out, or 0."""

    def __init__(self, layout, requests):
        self.requests = requests
        self.slot = layout.call_slot(0)
        self.words = [layout.word(index) for index in range(4)]
        self.written = {}
        self.places = []
        for at, request in enumerate(requests):
            self.places.append(self.place(at, request))
            if request[0] == "write":
                self.written[request[1]] = request[2]

    def place(self, at, request):
        if request[0] == "flush":
            return self.flush_place(at, request[1])
        if request != ("fence",):
            return 0
        if self.deed_slot(at + 1):
            return 7
        # The fence behind a doing's step, or behind seen statuses, goes with what it is made for.
        return self.places[-1] if self.places[-1] in (4, 5, 6) else 0

    def deed_slot(self, at):
        request = self.requests[at] if at < len(self.requests) else ("fence",)
        return request[:2] == ("write", self.slot) and request[2][0] == "deed"

    def flush_place(self, at, cell):
        if cell == self.slot:
            return 3 if self.deed_slot(at - 1) else 0
        if cell in self.words:
            return 5
        if self.requests[at - 1] == ("read", cell):
            return 4
        if cell not in self.written:
            return 6
        return 1 if isinstance(self.written[cell], tuple) and self.written[cell][0] == "items" else 2

    def without(self, place):
        return [request for request, left in zip(self.requests, self.places) if not place or left != place]


def without_witness(requests):
    """The witness depends on how many accesses there were, and is taken out."""
    return [
        request[:2] + (request[2][:3],) if request[0] == "write" and str(request[2]).startswith("('told'") else request
        for request in requests
    ]


class LeftOut(Calls):
    maxDiff = None

    def check(self, play, **many):
        """Play with each place; so many accesses go by the places that are named, and none by the others."""
        self.make()
        play(0)
        whole = Told(self.layout, self.own())
        for place in PLACES:
            if place:
                self.assertEqual(whole.places.count(place), many.get("of_%d" % place, 0), place)
            self.make()
            play(place)
            self.assertEqual(without_witness(self.own()), without_witness(whole.without(place)), place)

    def own(self):
        return [request for at, thread, request in self.memory.log() if thread == 0]

    def alone(self, call):
        def play(place):
            self.show(1, (1, 7))
            run(self.memory, 0, self.call(call, 1, place))
        return play


class Alone(LeftOut):
    def test_a_change_of_one_bucket(self):
        self.check(self.alone(("put", 0, 5)), of_1=1, of_2=2, of_3=1, of_4=2, of_5=2, of_7=1)

    def test_a_change_of_two_buckets(self):
        self.check(self.alone(("move", 1, 2)), of_1=2, of_2=2, of_3=1, of_4=2, of_5=3, of_7=1)

    def test_a_change_of_three_buckets(self):
        puts = ("puts", ((0, 5), (2, 6), (3, 7)))
        self.check(self.alone(puts), of_1=3, of_2=2, of_3=1, of_4=2, of_5=4, of_7=1)

    def test_calls_that_have_nothing_to_leave_out(self):
        for call in (("look", 1), ("take", 0), ("move", 0, 1), ("change", 1, 5, 6), ("puts", ((1, 7),))):
            self.check(self.alone(call))


class Seen(LeftOut):
    def seen(self, call, taken=0):
        def play(place):
            for bucket, status, new in ((0, 30, 40), (1, 31, 41)):
                self.write(self.record(new), items((bucket, 5)))
                self.write(self.record(status), ("done", 1))
                self.mark(bucket, status, new)
            self.stores[0].take(taken)
            run(self.memory, 0, self.call(call, 1, place))
        return play

    def test_the_flushing_of_seen_statuses_and_its_fence(self):
        self.check(self.seen(("look", 0)), of_6=2)
        self.check(self.seen(("move", 0, 1)), of_6=3)

    def test_a_full_call(self):
        self.check(self.seen(("put", 0, 6), taken=28), of_6=2)


class Attempts(LeftOut):
    def test_doing_another_deed_first(self):
        def play(place):
            # The mark of thread 1 is in the word, and its deed is not decided.
            started(self.memory, 1, self.call(("put", 4, 7), thread=1), 19)
            self.assertIsInstance(self.memory.peek(self.words[0]), tuple)
            self.assertEqual(run(self.memory, 0, self.call(("put", 0, 5), 1, place))[0], None)

        # The other deed is done, its own one fails, and then a second one is done.
        self.check(play, of_1=2, of_2=4, of_3=2, of_4=6, of_5=6, of_7=2)

    def test_a_status_that_is_seen_by_an_attempt(self):
        def play(place):
            started(self.memory, 1, self.call(("put", 4, 7), thread=1), 20)
            self.assertIsInstance(self.memory.peek(self.words[0]), tuple)
            self.assertEqual(run(self.memory, 0, self.call(("put", 4, 7), 1, place))[0], 7)

        self.check(play, of_6=2)

    def test_undone_is_flushed_whatever_is_left_out(self):
        def play(place):
            stack = started(self.memory, 0, self.call(("put", 0, 5), 1, place), 11)
            run(self.memory, 1, self.call(("put", 0, 5), thread=1))
            self.assertEqual(run_on(self.memory, 0, stack)[0], 5)
            self.assertEqual(self.own().count(("write", self.slot(), ("undone", 1))), 1)
            at = self.own().index(("write", self.slot(), ("undone", 1)))
            self.assertEqual(self.own()[at:at + 3], self.slotted(("undone", 1)))

        self.check(play, of_1=1, of_2=2, of_3=1, of_4=2, of_5=2, of_7=1)


if __name__ == "__main__":
    unittest.main()
