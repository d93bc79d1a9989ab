"""Deeds: several words that are changed at one moment."""

from driftkept.errors import NotValid
from driftkept.machines import Machine
from driftkept.memory import is_mark, lasting_accesses
from driftkept.reads import shown_by
from driftkept.values import is_ascending, is_same


def deed_record(status, entries, thread, number, answer):
    """The record of a deed."""
    cells = [entry[0] for entry in entries]
    if not cells or not is_ascending(cells):
        raise NotValid()
    return ("deed", status, tuple(entries), thread, number, answer)


class Doing(Machine):
    """Does the deed in a record cell, and ends with the value of its status."""

    def __init__(self, address, without=0):
        Machine.__init__(self)
        self._address = address
        self._without = without
        self._status_cell = 0
        self._entries = ()
        self._passed = 0
        self._status = None
        self._ask([("read", address)], self._take_deed)

    def request(self):
        """What the machine wants next; it changes nothing."""
        return self._wanted

    def accept(self, result):
        """Take the result of what was requested."""
        self._go_on(result)

    def _take_deed(self, result):
        deed = result[0]
        self._status_cell = deed[1]
        self._entries = deed[2]
        self._ask([("read", self._status_cell)], self._take_status)

    def _take_status(self, result):
        status = result[0]
        if is_same(status, 0):
            self._look()
        else:
            self._status = status
            self._ask(self._closing_accesses(), self._close)

    def _look(self):
        if self._passed == len(self._entries):
            self._decide("done")
        else:
            self._ask([("read", self._entries[self._passed][0])], self._take_word)

    def _take_word(self, result):
        held = result[0]
        entry = self._entries[self._passed]
        if is_mark(held):
            self._meet(held)
        elif held == entry[1]:
            self._ask([("swap", entry[0], held, self._mark_of(entry))], self._take_swap)
        else:
            self._decide("failed")

    def _meet(self, mark):
        if mark[0] == self._address:
            self._pass()
        else:
            self._ask([("call", Doing(mark[0], self._without))], self._look_again)

    def _look_again(self, result):
        self._look()

    def _take_swap(self, result):
        if result[0]:
            self._pass()
        else:
            self._look()

    def _pass(self):
        self._passed += 1
        self._look()

    def _decide(self, word):
        # Another thread may have decided otherwise before, so the status is read again.
        self._ask([("decide", self._status_cell, word), ("read", self._status_cell)], self._take_status)

    def _closing_accesses(self):
        cleaning = []
        for entry in self._entries:
            mark = self._mark_of(entry)
            cleaning.append(("swap", entry[0], mark, shown_by(mark, self._status)))
        # Nobody may see a word without its mark before the status lasts.
        before = [] if self._without == 4 else lasting_accesses([self._status_cell])
        behind = [] if self._without == 5 else lasting_accesses([entry[0] for entry in self._entries])
        return before + cleaning + behind

    def _close(self, result):
        self._end(self._status)

    def _mark_of(self, entry):
        return (self._address, self._status_cell, entry[1], entry[2])
