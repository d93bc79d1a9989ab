"""What several tests use: machines that follow a list, and memories with their cells."""

from driftkept.machines import Stack
from driftkept.memory import Layout, Memory


class Listed:
    """A machine that requests what a list tells, one after the other, and keeps the results."""

    def __init__(self, requests):
        self.requests = list(requests)
        self.results = []

    def request(self):
        return self.requests[len(self.results)]

    def accept(self, result):
        self.results.append(result)


class Echo:
    """A machine that calls another one and ends with what came of it."""

    def __init__(self, called):
        self.called = called
        self.accepted = []

    def request(self):
        if self.accepted:
            return ("end", ("echo", self.accepted[0]))
        return ("call", self.called)

    def accept(self, result):
        self.accepted.append(result)


def a_memory(threads=2, words=2, records=6):
    return Memory(Layout(threads, words, records))


def lasting_cells(memory):
    layout = memory.layout
    return [cell for cell in range(layout.cells()) if layout.is_lasting(cell)]


def told(memory):
    """All that a memory tells of itself."""
    trails = {cell: memory.trail(cell) for cell in lasting_cells(memory)}
    values = [memory.peek(cell) for cell in range(memory.layout.cells())]
    return (memory.count, memory.log(), values, trails)


def behind_fences(memory):
    """What a memory tells of itself behind a fence of each thread, which shows the notes."""
    seen = []
    for thread in range(memory.layout.threads):
        memory.access(thread, ("fence",))
        seen.append(told(memory))
    return seen


def in_kinds(value):
    """The value with the kinds of its parts, for which True is not equal to 1."""
    if isinstance(value, tuple):
        return ("tuple", [in_kinds(part) for part in value])
    return (value.__class__.__name__, value)


class Pausing:
    """A machine that makes so many fences of its own before it ends."""

    def __init__(self, accesses):
        self.left = accesses

    def request(self):
        return ("fence",) if self.left else ("end", None)

    def accept(self, result):
        self.left -= 1


def run(memory, thread, machine, most=1000):
    """Let a thread run a machine alone until it has ended; its value."""
    stack = Stack(machine)
    for _ in range(most):
        stack.step(memory, thread)
        if stack.ended():
            return stack.value()
    raise AssertionError("the machine does not end")


def started(memory, thread, machine, accesses):
    """The stack of a machine of which a thread has made so many accesses."""
    stack = Stack(machine)
    for _ in range(accesses):
        assert stack.step(memory, thread)
    return stack


def run_on(memory, thread, stack, most=1000):
    """Let a thread go on with a stack alone until it is empty; its value."""
    for _ in range(most):
        if stack.ended():
            return stack.value()
        stack.step(memory, thread)
    raise AssertionError("the stack does not end")


def requests_behind(memory, number):
    """The requests of all accesses behind the one with this number."""
    return [request for at, thread, request in memory.log() if at > number]


def write_lasting(memory, thread, cell, value):
    """Give a cell a value that lasts."""
    memory.access(thread, ("write", cell, value))
    memory.access(thread, ("flush", cell))
    memory.access(thread, ("fence",))


class Asked:
    """A machine that asks another one for each of its requests twice, and so the machines that it calls."""

    def __init__(self, machine):
        self.machine = machine
        self.called = None

    def request(self):
        first, second = self.machine.request(), self.machine.request()
        assert first == second, (first, second)
        if first[0] != "call":
            return first
        if self.called is None or self.called.machine is not first[1]:
            self.called = Asked(first[1])
        return ("call", self.called)

    def accept(self, result):
        self.machine.accept(result)


def draw_call(draw, keys):
    """Draw a call over the keys from -keys to keys, with values from 0 to 2."""
    one, other, third = draw.sample(range(-keys, keys + 1), 3)
    old, new = draw.randrange(3), draw.randrange(3)
    pairs = ((one, old), (other, new), (third, draw.randrange(3)))[:draw.randrange(1, 4)]
    return draw.choice([
        ("look", one),
        ("put", one, new),
        ("put", one, new),
        ("take", one),
        ("change", one, old, new),
        ("move", one, other),
        ("move", one, other),
        ("puts", pairs),
        ("puts", pairs),
    ])
