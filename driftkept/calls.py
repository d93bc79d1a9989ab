"""Calls: how a thread looks up and changes keys."""

from driftkept.deeds import Doing, deed_record
from driftkept.epochs import Entering, Leaving
from driftkept.machines import Machine
from driftkept.memory import lasting_accesses
from driftkept.plans import buckets_of, plan
from driftkept.reads import Shown, is_done
from driftkept.records import EMPTY, is_items


class KeyCall(Machine):
    """Makes a call, and ends with the tuple (answer, witness)."""

    def __init__(self, store, call, number, without=0):
        Machine.__init__(self)
        self.done = None
        self.status = None
        self._store = store
        self._call = call
        self._number = number
        self._without = without
        self._buckets = []
        # By bucket what the present attempt has read: what `Shown` ended with, and the record.
        self._shown = {}
        self._found = {}
        self._answer = None
        self._witness = None
        # Of the present attempt: the entries of its deed, and the cells of its status and its deed.
        self._entries = []
        self._deed_cells = []
        # The status and the deed of the attempt before, to which the call slot leads.
        self._failed = []
        self._ask([("call", Entering(store))], self._begin)

    def request(self):
        """What the machine wants next; it changes nothing."""
        return self._wanted

    def accept(self, result):
        """Take the result of what was requested."""
        self._go_on(result)

    def _begin(self, result):
        self._look()

    def _look(self):
        self._shown = {}
        self._found = {}
        self._buckets = buckets_of(self._call)
        self._look_on()

    def _look_on(self):
        if self._buckets:
            self._ask([("call", Shown(self._store.layout, self._buckets[0]))], self._take_shown)
        else:
            self._make_plan()

    def _take_shown(self, result):
        self._shown[self._buckets[0]] = result
        self._ask([("read", result[0])], self._take_record)

    def _take_record(self, result):
        bucket = self._buckets.pop(0)
        # Only a store that leaves something out can show what is no record, behind a cut. Its calls go on
        # as if there was nothing; it is the checker that tells of it.
        self._found[bucket] = result[0] if is_items(result[0], bucket) else EMPTY
        self._look_on()

    def _make_plan(self):
        made = plan(self._call, self._found)
        if made[0] == "answer":
            self._keep(made[1], self._shown[made[2]][1])
        else:
            self._change(made[1], made[2])

    def _change(self, answer, rows):
        cells = self._store.take(len(rows) + 2)
        if cells is None:
            self._keep("full", None)
            return
        self._answer = answer
        self._deed_cells = cells[-2:]
        self._entries = self._entries_of(rows, cells)
        deed = deed_record(cells[-2], self._entries, self._store.thread, self._number, answer)
        values = [record for bucket, record in rows] + [0, deed]
        writes = [("write", cell, value) for cell, value in zip(cells, values)]
        slot = self._slot_accesses(("deed", self._number, cells[-1]), self._without != 3)
        self._ask(writes + self._first_fence(cells) + slot, self._do)

    def _entries_of(self, rows, cells):
        layout = self._store.layout
        return [(layout.word(row[0]), self._shown[row[0]][0], cell) for row, cell in zip(rows, cells)]

    def _first_fence(self, cells):
        # Nobody may be led to the deed before all of it lasts.
        flushed = ([] if self._without == 1 else cells[:-2]) + ([] if self._without == 2 else cells[-2:])
        accesses = lasting_accesses(flushed)
        return accesses[:-1] if self._without == 7 else accesses

    def _slot_accesses(self, value, with_flush=True):
        slot = self._store.layout.call_slot(self._store.thread)
        return [("write", slot, value), *lasting_accesses([slot] if with_flush else [])]

    def _do(self, result):
        self.status = self._deed_cells[0]
        self._take_out_failed()
        self._ask([("call", Doing(self._deed_cells[1], self._without))], self._take_status)

    def _take_status(self, result):
        self.status = None
        if is_done(result):
            self.done = result[1]
            self._witness = result[1]
            told = ("told", self._number, self._answer, self._witness)
            self._ask(self._slot_accesses(told), self._take_out_old)
        else:
            self._store.give_back([new for cell, old, new in self._entries])
            self._failed = self._deed_cells
            self._look()

    def _take_out_old(self, result):
        # Only now the call slot does not lead to the deed any more.
        self._store.take_out([old for cell, old, new in self._entries] + self._deed_cells)
        self._leave()

    def _take_out_failed(self):
        self._store.take_out(self._failed)
        self._failed = []

    def _keep(self, answer, witness):
        """End without a change; what was shown must last, and the slot may not lead to a failed deed."""
        self._answer = answer
        self._witness = witness
        requests = []
        seen = [status for address, access, status in self._shown.values() if status is not None]
        if seen and self._without != 6:
            requests.extend(lasting_accesses(seen))
        if self._failed:
            requests.extend(self._slot_accesses(("undone", self._number)))
        if requests:
            self._ask(requests, self._take_out_kept)
        else:
            self._leave()

    def _take_out_kept(self, result):
        self._take_out_failed()
        self._leave()

    def _leave(self):
        self._ask([("call", Leaving(self._store))], self._end_here)

    def _end_here(self, result):
        self._end((self._answer, self._witness))


def machine_of(store, call, number, without):
    """The machine of a call."""
    return KeyCall(store, call, number, without)
