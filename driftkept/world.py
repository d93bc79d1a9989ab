"""The world: a memory, threads that make their calls, drifts, and cuts of the power."""

from driftkept.calls import machine_of
from driftkept.epochs import Store, divided
from driftkept.errors import NotValid
from driftkept.machines import Stack
from driftkept.memory import Layout, Memory
from driftkept.plans import is_call
from driftkept.reads import is_done
from driftkept.records import BUCKETS
from driftkept.recovery import Recovering
from driftkept.values import is_same, is_whole, is_within

MOST_STEPS = 10 ** 9


class Going:
    """A call that has begun and has not ended."""

    def __init__(self, machine, first):
        self.machine = machine
        self.stack = Stack(machine)
        self.first = first


class World:
    """A memory and its threads, which make their calls one after the other."""

    def __init__(self, calls, records=60, without=0):
        if not (are_calls(calls) and is_within(records, 20, 200) and is_within(without, 0, 7)):
            raise NotValid()
        self.layout = Layout(len(calls), BUCKETS, records)
        self.memory = Memory(self.layout)
        self.stores = stores_beside(self.layout, [self.layout.record(index) for index in range(BUCKETS)])
        self._calls = [list(row) for row in calls]
        self._without = without
        # For each thread the rows of the calls that have ended, and the call that goes on, or None.
        self._ended = [[] for row in calls]
        self._going = [None for row in calls]
        # The stack of the recovery while the memory recovers.
        self._recovery = None

    def play(self, acts):
        """Play acts; the list of True or False, whether each one changed something."""
        return [self._act(act) for act in acts]

    def settle(self, rounds):
        """Play rounds until nothing is left to do; True if nothing is."""
        for _ in range(rounds):
            if self._is_settled():
                return True
            self._play_round()
        return self._is_settled()

    def recovering(self):
        """True if the memory recovers."""
        return self._recovery is not None

    def idle(self, thread):
        """True if the thread has ended all its calls."""
        return not self.layout.has_thread(thread) or len(self._ended[thread]) == len(self._calls[thread])

    def history(self):
        """A new list with a row for each call that was begun."""
        rows = []
        for thread, ended in enumerate(self._ended):
            rows.extend(ended)
            if self._going[thread] is not None:
                rows.append(self._row(thread, None, self._witness(self._going[thread].machine), None))
        return rows

    def _is_settled(self):
        return self._recovery is None and all([self.idle(thread) for thread in range(self.layout.threads)])

    def _play_round(self):
        if self._recovery is not None:
            self._recover()
            return
        for thread in range(self.layout.threads):
            self._pick(thread)

    def _act(self, act):
        if is_whole(act):
            return self._pick(act)
        # A pattern also takes lists, and an act is none.
        if not isinstance(act, tuple):
            return False
        match act:
            case ("drift", cell, steps):
                return self._drift(cell, steps)
            case ("cut", choices):
                return self._cut(choices)
        return False

    def _pick(self, thread):
        if not self.layout.has_thread(thread):
            return False
        if self._recovery is not None:
            self._recover()
            return True
        if self.idle(thread):
            return False
        self._go_on(thread)
        return True

    def _drift(self, cell, steps):
        if not self.layout.is_lasting(cell) or not is_within(steps, 0, MOST_STEPS):
            return False
        before = len(self.memory.trail(cell))
        self.memory.drift(cell, steps)
        return len(self.memory.trail(cell)) < before

    def _cut(self, choices):
        if not isinstance(choices, list) or not all([is_within(steps, 0, MOST_STEPS) for steps in choices]):
            return False
        self.memory.cut(choices)
        self._recovery = Stack(Recovering(self.layout))
        return True

    def _go_on(self, thread):
        if self._going[thread] is None:
            self._begin(thread)
        stack = self._going[thread].stack
        stack.step(self.memory, thread)
        if stack.ended():
            answer, witness = stack.value()
            self._end(thread, answer, witness)

    def _begin(self, thread):
        index = len(self._ended[thread])
        machine = machine_of(self.stores[thread], self._calls[thread][index], index + 1, self._without)
        self._going[thread] = Going(machine, self.memory.count + 1)

    def _end(self, thread, answer, witness):
        row = self._row(thread, answer, witness, self.memory.count)
        self._ended[thread].append(row)
        self._going[thread] = None

    def _row(self, thread, answer, witness, last):
        index = len(self._ended[thread])
        return (thread, index, self._calls[thread][index], answer, witness, self._going[thread].first, last)

    def _witness(self, machine):
        if self._recovery is not None:
            return None
        if machine.status is not None:
            status = self.memory.peek(machine.status)
            if is_done(status):
                return status[1]
        return machine.done

    def _recover(self):
        self._recovery.step(self.memory, 0)
        if not self._recovery.ended():
            return
        self.stores = stores_beside(self.layout, self._recovery.value())
        self._recovery = None
        for thread in range(self.layout.threads):
            if self._going[thread] is not None:
                self._end_cut(thread)

    def _end_cut(self, thread):
        told = self.memory.peek(self.layout.call_slot(thread))
        number = len(self._ended[thread]) + 1
        if isinstance(told, tuple) and is_same(told[:2], ("told", number)):
            self._end(thread, told[2], told[3])
        else:
            self._end(thread, "undone", None)


def are_calls(value):
    """True if the value is a list of 1 to 3 lists of calls; it may be anything."""
    if not isinstance(value, list) or not is_within(len(value), 1, 3):
        return False
    return all([isinstance(row, list) and all([is_call(call) for call in row]) for row in value])


def stores_beside(layout, addresses):
    """The stores of the threads when the words have these addresses, and all other record cells are free."""
    cells = [layout.record(index) for index in range(layout.records)]
    free = [cell for cell in cells if cell not in addresses]
    return [Store(layout, thread, divided(layout, free, thread)) for thread in range(layout.threads)]
