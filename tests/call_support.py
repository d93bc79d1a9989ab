"""What the tests of calls use: a memory with stores, and the accesses that the document tells."""

import unittest

from driftkept.calls import KeyCall
from driftkept.epochs import Store, divided
from driftkept.memory import Layout, Memory
from support import requests_behind, run, write_lasting


def items(*pairs):
    return ("items", pairs)


def lasting(*cells):
    """The accesses that make cells last."""
    return [("flush", cell) for cell in cells] + [("fence",)]


class Calls(unittest.TestCase):
    """A memory of two threads; the accesses of the parts of a call, by thread 0 if no thread is named."""

    def setUp(self):
        self.make()

    def make(self, threads=2, records=60, free=None):
        self.layout = Layout(threads, 4, records)
        self.memory = Memory(self.layout)
        self.words = [self.layout.word(index) for index in range(4)]
        self.first = [self.layout.record(index) for index in range(4)]
        cells = [self.layout.record(index) for index in range(4, records)]
        self.stores = [Store(self.layout, thread, divided(self.layout, cells, thread)) for thread in range(threads)]
        if free is not None:
            self.stores[0] = Store(self.layout, 0, [self.layout.record(index) for index in free])

    # What stands in the memory

    def record(self, index):
        return self.layout.record(index)

    def records(self, *indexes):
        return [self.layout.record(index) for index in indexes]

    def show(self, bucket, *pairs):
        """Give the first record of a bucket these pairs, as if it had been so from the beginning."""
        write_lasting(self.memory, 1, self.first[bucket], items(*pairs))

    def mark(self, bucket, status, new, deed=50, old=None):
        """Put a mark into the word of a bucket; its cells are given by the indexes of records."""
        old = self.first[bucket] if old is None else old
        value = (self.record(deed), self.record(status), old, self.record(new))
        self.memory.access(1, ("write", self.words[bucket], value))

    def write(self, cell, value):
        self.memory.access(1, ("write", cell, value))

    def slot(self, thread=0):
        return self.layout.call_slot(thread)

    # What a call does

    def call(self, call, number=1, without=0, thread=0):
        return KeyCall(self.stores[thread], call, number, without)

    def whole(self, call, number=1, without=0):
        """Let thread 0 make a whole call alone: its end, and its requests."""
        count = self.memory.count
        value = run(self.memory, 0, self.call(call, number, without))
        return value, requests_behind(self.memory, count)

    def entered(self, epoch=0, thread=0):
        return [("read", 0), ("write", self.layout.epoch_slot(thread), epoch), ("read", 0)]

    def looked(self, *buckets, at=None):
        """Words that hold addresses are read, each with its record."""
        addresses = self.first if at is None else at
        return [("read", cell) for bucket in buckets for cell in (self.words[bucket], addresses[bucket])]

    def left(self, epoch=0, out=True, waits=True, thread=0):
        """Leaving, when no other thread keeps the epoch."""
        layout = self.layout
        stamp = [("read", 0)] if out else []
        others = [("read", layout.epoch_slot(other)) for other in range(layout.threads) if other != thread]
        moved = [("read", 0), *others, ("swap", 0, epoch, epoch + 1)] if waits else []
        return stamp + [("write", layout.epoch_slot(thread), None)] + moved

    def deed(self, answer, rows, cells, number=1, olds=None, thread=0):
        """The deed of a call: rows of buckets and records, and the cells that are taken for it."""
        olds = olds or self.first
        entries = [(self.words[bucket], olds[bucket], cell) for (bucket, record), cell in zip(rows, cells)]
        return ("deed", cells[-2], tuple(entries), thread, number, answer)

    def written(self, deed, rows, cells):
        """Step 5 up to its first fence."""
        values = [record for bucket, record in rows] + [0, deed]
        return [("write", cell, value) for cell, value in zip(cells, values)] + lasting(*cells)

    def slotted(self, value, thread=0):
        return [("write", self.slot(thread), value)] + lasting(self.slot(thread))

    def begun(self, deed, address):
        return [("read", address), ("read", deed[1])]

    def marks(self, deed, address):
        return [(address, deed[1], old, new) for cell, old, new in deed[2]]

    def marked(self, deed, address):
        marks = zip(deed[2], self.marks(deed, address))
        return [one for (cell, old, new), mark in marks for one in (("read", cell), ("swap", cell, old, mark))]

    def closed(self, deed, address, part):
        cells = [entry[0] for entry in deed[2]]
        cleaned = [
            ("swap", entry[0], mark, entry[part]) for entry, mark in zip(deed[2], self.marks(deed, address))
        ]
        return lasting(deed[1]) + cleaned + lasting(*cells)

    def done(self, deed, address):
        """Step 6, when nobody disturbs it."""
        decided = [("decide", deed[1], "done"), ("read", deed[1])]
        return self.begun(deed, address) + self.marked(deed, address) + decided + self.closed(deed, address, 2)

    def changed(self, answer, rows, cells, number=1, witness=None, olds=None):
        """Steps 5 to 7, when the deed is done at once."""
        deed = self.deed(answer, rows, cells, number, olds)
        return (
            self.written(deed, rows, cells)
            + self.slotted(("deed", number, cells[-1]))
            + self.done(deed, cells[-1])
            + self.slotted(("told", number, answer, witness))
        )
