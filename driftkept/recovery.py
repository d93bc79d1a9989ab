"""Recovery: what is done behind a cut, before any thread goes on."""

from driftkept.machines import Machine
from driftkept.memory import is_mark, lasting_accesses
from driftkept.reads import is_done, shown_by
from driftkept.values import is_same


class Recovering(Machine):
    """Recovers a memory, and ends with the list of the addresses of its words."""

    def __init__(self, layout):
        Machine.__init__(self)
        self._layout = layout
        self._thread = 0
        self._number = 0
        self._deed = None
        self._done_deeds = []
        # What the call slots get that lead to a deed, by their cells.
        self._told = {}
        self._held = []
        self._addresses = []
        self._look_at_slot()

    def request(self):
        """What the machine wants next; it changes nothing."""
        return self._wanted

    def accept(self, result):
        """Take the result of what was requested."""
        self._go_on(result)

    def _look_at_slot(self):
        if self._thread < self._layout.threads:
            self._ask([("read", self._layout.call_slot(self._thread))], self._take_slot)
        else:
            self._look_at_word()

    def _take_slot(self, result):
        slot = result[0]
        if leads_to_deed(slot):
            self._number = slot[1]
            self._ask([("read", slot[2])], self._take_deed)
        else:
            self._pass_slot()

    def _take_deed(self, result):
        self._deed = result[0]
        if is_deed_of(self._deed, self._thread, self._number):
            self._ask([("read", self._deed[1])], self._take_status)
        else:
            self._tell(("undone", self._number))

    def _take_status(self, result):
        status = result[0]
        if is_done(status):
            self._done_deeds.append(self._deed)
            self._tell(("told", self._number, self._deed[5], status[1]))
        else:
            self._tell(("undone", self._number))

    def _tell(self, value):
        self._told[self._layout.call_slot(self._thread)] = value
        self._pass_slot()

    def _pass_slot(self):
        self._thread += 1
        self._look_at_slot()

    def _look_at_word(self):
        if len(self._held) < self._layout.words:
            self._ask([("read", self._layout.word(len(self._held)))], self._take_word)
        else:
            self._write()

    def _take_word(self, result):
        held = result[0]
        self._held.append(held)
        if is_mark(held):
            self._ask([("read", held[1])], self._take_mark_status)
        else:
            self._addresses.append(held)
            self._look_at_word()

    def _take_mark_status(self, result):
        self._addresses.append(shown_by(self._held[-1], result[0]))
        self._look_at_word()

    def _write(self):
        words = [self._layout.word(index) for index in range(self._layout.words)]
        led = led_on(dict(zip(words, self._addresses)), self._done_deeds)
        self._addresses = [led[word] for word in words]
        changed = {word: led[word] for word, held in zip(words, self._held) if held != led[word]}
        requests = giving(changed) + giving(self._told)
        if requests:
            self._ask(requests, self._close)
        else:
            self._close(None)

    def _close(self, result):
        self._end(self._addresses)


def leads_to_deed(slot):
    """True if a call slot with this value leads to a deed."""
    return isinstance(slot, tuple) and slot[:1] == ("deed",)


def is_deed_of(value, thread, number):
    """True if the value of a record cell is a deed of this thread and this number."""
    return isinstance(value, tuple) and value[:1] == ("deed",) and is_same(value[3:5], (thread, number))


def led_on(addresses, deeds):
    """A dict from the words to the addresses to which done deeds lead on from the given ones."""
    led = dict(addresses)
    # A deed leads a word on at most once, so these rounds suffice for the longest chain.
    for _ in deeds:
        for deed in deeds:
            for cell, old, new in deed[2]:
                if led[cell] == old:
                    led[cell] = new
    return led


def giving(values):
    """The accesses that give cells their values, and make them last; none if there are no cells."""
    if not values:
        return []
    return [("write", cell, value) for cell, value in values.items()] + lasting_accesses(list(values))
