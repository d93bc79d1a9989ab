"""Reading words: the address that a word shows."""

from driftkept.machines import Machine
from driftkept.memory import is_mark


def is_done(status):
    """True if this value of a status cell tells that its deed is done."""
    return isinstance(status, tuple) and status[:1] == ("done",)


def shown_by(mark, status):
    """The address that a word with this mark shows, by the value of its status cell."""
    old, new = mark[2:]
    return new if is_done(status) else old


def shown_now(memory, index):
    """The shown value of the word with this index, without an access."""
    held = memory.peek(memory.layout.word(index))
    if is_mark(held):
        return shown_by(held, memory.peek(held[1]))
    return held


class Shown(Machine):
    """Reads a word once, and ends with the tuple (address, access, status cell or None)."""

    def __init__(self, layout, index):
        Machine.__init__(self)
        self._mark = None
        self._access = 0
        self._ask([("read", layout.word(index))], self._take_word)

    def request(self):
        """What the machine wants next; it changes nothing."""
        return self._wanted

    def accept(self, result):
        """Take the result of what was requested."""
        self._go_on(result)

    def _take_word(self, result):
        held, access = result
        if is_mark(held):
            self._mark = held
            self._access = access
            self._ask([("read", held[1])], self._take_status)
        else:
            self._end((held, access, None))

    def _take_status(self, result):
        status = result[0]
        address = shown_by(self._mark, status)
        if is_done(status):
            # A deed that was decided behind the first access shows its new
            # address only from then on.
            self._end((address, max(self._access, status[1]), self._mark[1]))
        else:
            self._end((address, self._access, None))
