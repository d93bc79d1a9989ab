"""Points [1], [29], [30] and [38]: calls in drawn orders, with drifts, cuts and recoveries at any access."""

import random
import unittest

from driftkept.calls import KeyCall
from driftkept.epochs import Store, divided
from driftkept.machines import Stack
from driftkept.memory import Layout, Memory
from driftkept.reads import is_done, shown_now
from driftkept.recovery import Recovering
from support import draw_call, lasting_cells
from test_plans import naive


class Row:
    """A call that was begun."""

    def __init__(self, thread, call, number, machine, first):
        self.thread = thread
        self.call = call
        self.number = number
        self.machine = machine
        self.stack = Stack(machine)
        self.first = first
        self.last = None
        self.answer = None
        self.witness = None

    def present_witness(self, memory):
        """The access at which the call took place, as far as it has."""
        if self.last is None and self.machine.status is not None and is_done(memory.peek(self.machine.status)):
            return memory.peek(self.machine.status)[1]
        return self.machine.done if self.last is None else self.witness


class Play:
    """Threads that make drawn calls; the power is cut now and then."""

    def __init__(self, seed, threads, records):
        self.draw = random.Random(seed)
        self.keys = self.draw.choice([2, 4])
        self.memory = Memory(Layout(threads, 4, records))
        self.layout = self.memory.layout
        self.rows = []
        self.going = [None] * threads
        self.many = [0] * threads
        self.recovery = None
        self.resume([self.layout.record(index) for index in range(4)])

    def resume(self, addresses):
        cells = [self.layout.record(index) for index in range(self.layout.records)]
        free = [cell for cell in cells if cell not in addresses]
        threads = range(self.layout.threads)
        self.stores = [Store(self.layout, thread, divided(self.layout, free, thread)) for thread in threads]

    def step(self, thread):
        if self.recovery is not None:
            self.recover()
            return
        row = self.going[thread]
        if row is None:
            row = self.begin(thread)
        row.stack.step(self.memory, thread)
        if row.stack.ended():
            row.answer, row.witness = row.stack.value()
            row.last = self.memory.count
            self.going[thread] = None

    def begin(self, thread):
        self.many[thread] += 1
        call = draw_call(self.draw, self.keys)
        machine = KeyCall(self.stores[thread], call, self.many[thread])
        self.going[thread] = Row(thread, call, self.many[thread], machine, self.memory.count + 1)
        self.rows.append(self.going[thread])
        return self.going[thread]

    def cut(self):
        many = len(lasting_cells(self.memory))
        self.memory.cut(self.draw.choice([[], [9] * many, [self.draw.randrange(3) for _ in range(many)]]))
        self.recovery = Stack(Recovering(self.layout))

    def recover(self):
        self.recovery.step(self.memory, 0)
        if not self.recovery.ended():
            return
        self.resume(self.recovery.value())
        self.recovery = None
        for thread, row in enumerate(self.going):
            if row is not None:
                told = self.memory.peek(self.layout.call_slot(thread))
                took_place = told is not None and told[:2] == ("told", row.number)
                row.answer, row.witness = told[2:] if took_place else ("undone", None)
                row.last = self.memory.count
                self.going[thread] = None

    def fault(self):
        """Whether what took place is one order that keeps time, and the memory shows what came of it."""
        rows = []
        for at, row in enumerate(self.rows):
            witness = row.present_witness(self.memory)
            if witness is not None:
                if witness < row.first or row.last is not None and witness > row.last:
                    return "time"
                rows.append((witness, 0 if self.may_change(row) else 1, at, row))
            elif row.last is not None and row.answer not in ("full", "undone"):
                return "missing"
        plain = {}
        for witness, rank, at, row in sorted(rows, key=lambda one: one[:3]):
            answer, plain = naive(row.call, plain)
            if row.last is not None and (row.answer, type(row.answer)) != (answer, type(answer)):
                return "answer"
        return "" if plain == self.shown() else "map"

    def may_change(self, row):
        """At one witness a change comes before the calls that were shown it."""
        if row.last is None:
            return True
        return row.machine.done is not None or self.told_by_recovery(row)

    def told_by_recovery(self, row):
        return not row.stack.ended() and row.witness is not None

    def shown(self):
        records = [self.memory.peek(shown_now(self.memory, index)) for index in range(4)]
        return {key: value for word, pairs in records for key, value in pairs}

    def end(self):
        """Let every open call end, thread by thread."""
        for thread in self.draw.sample(range(len(self.going)), len(self.going)):
            for _ in range(600):
                if self.going[thread] is None:
                    break
                self.step(thread)
            else:
                return "does not end"
        return self.fault()


def play(seed, threads, accesses=300):
    game = Play(seed, threads, random.Random(seed).choice([20, 30, 60]))
    draw = game.draw
    thread = 0
    patience, cuts, drifts = draw.choice([0.1, 0.5]), draw.choice([0, 0.01, 0.04]), draw.choice([0.05, 0.5])
    for _ in range(accesses):
        if draw.random() < patience:
            thread = draw.randrange(threads)
        game.step(thread)
        if draw.random() < drifts:
            game.memory.drift(draw.choice(lasting_cells(game.memory)), draw.randrange(4))
        if draw.random() < cuts:
            game.cut()
        fault = "" if game.recovery else game.fault()
        if fault:
            return fault, game
    while game.recovery:
        game.recover()
    return game.end(), game


class Drawn(unittest.TestCase):
    def check(self, threads, seeds):
        answers = []
        for seed in range(seeds):
            fault, game = play(seed, threads)
            self.assertEqual(fault, "", (threads, seed))
            answers += [row.answer for row in game.rows]
        self.assertGreater(answers.count("undone"), seeds // 4)
        self.assertGreater(len(answers), 5 * seeds)

    def test_one_thread(self):
        self.check(1, 40)

    def test_two_threads(self):
        self.check(2, 120)

    def test_three_threads(self):
        self.check(3, 120)


class EveryAccess(unittest.TestCase):
    """Two calls that meet, with a cut at each access, and every single drift before it."""

    def play(self, accesses, drifted):
        """Thread 0 comes so far, then thread 1 makes a whole call, then the power is cut."""
        game = Play(1, 2, 20)
        calls = [("puts", ((0, 5), (1, 6))), ("move", 0, 2)]
        for thread, call in enumerate(calls):
            machine = KeyCall(game.stores[thread], call, 1)
            row = Row(thread, call, 1, machine, game.memory.count + 1)
            game.rows.append(row)
            game.going[thread] = row
            for _ in range(accesses[thread]):
                if row.stack.ended():
                    break
                game.step(thread)
            # A call that was not begun has no row.
            if not accesses[thread]:
                game.rows.remove(row)
                game.going[thread] = None
        before = game.rows[0].present_witness(game.memory) if game.rows else None
        game.memory.cut([9 if at in drifted else 0 for at in range(len(lasting_cells(game.memory)))])
        game.recovery = Stack(Recovering(game.layout))
        while game.recovery:
            game.recover()
        self.assertEqual(game.fault(), "", (accesses, drifted))
        if accesses[0] >= 60:
            self.assertEqual(game.rows[0].witness, before)

    def test_a_cut_at_any_access(self):
        for first in range(0, 50):
            for second in range(0, 70, 3):
                self.play((first, second), ())

    def test_single_cells_that_have_drifted(self):
        # The slots, the words and the first record cells.
        for first in range(16, 44):
            for at in range(16):
                self.play((first, first % 5 * 14), (at,))

    def test_all_cells_have_drifted(self):
        for first in range(0, 50):
            self.play((first, 12), range(30))


if __name__ == "__main__":
    unittest.main()
