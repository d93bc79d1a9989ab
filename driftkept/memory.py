"""Memory that lasts: its cells, the accesses to them, drifts and cuts."""

from driftkept.errors import NotValid
from driftkept.records import EMPTY
from driftkept.values import is_many, is_same, is_value, is_within


def is_mark(value):
    """True if the value of a word is a mark."""
    return isinstance(value, tuple)


class Layout:
    """Which cell is which: passing cells first, then lasting ones."""

    def __init__(self, threads, words, records):
        if not (is_within(threads, 1, 3) and is_within(words, 1, 4) and is_within(records, 4, 200)):
            raise NotValid()
        self.threads = threads
        self.words = words
        self.records = records

    # Each kind of cells begins where the one before it would go on.

    def epoch(self):
        """The cell of the epoch."""
        return 0

    def epoch_slot(self, thread):
        """The epoch slot of a thread."""
        return 1 + thread

    def call_slot(self, thread):
        """The call slot of a thread."""
        return self.epoch_slot(self.threads) + thread

    def word(self, index):
        """The cell of the word with this index."""
        return self.call_slot(self.threads) + index

    def record(self, index):
        """The record cell with this index."""
        return self.word(self.words) + index

    def cells(self):
        """The number of all cells."""
        return self.record(self.records)

    def is_cell(self, cell):
        """True if there is such a cell."""
        return is_within(cell, 0, self.cells() - 1)

    def is_lasting(self, cell):
        """True if this is a lasting cell."""
        return self.is_cell(cell) and cell >= self.call_slot(0)

    def is_record(self, cell):
        """True if this is a record cell."""
        return self.is_cell(cell) and cell >= self.record(0)

    def has_thread(self, thread):
        """True if there is such a thread."""
        return is_within(thread, 0, self.threads - 1)


def is_access(layout, request):
    """True if the request is an access to cells that exist."""
    # A pattern also takes lists, and a request is none.
    if not isinstance(request, tuple):
        return False
    match request:
        case ("read", cell):
            return layout.is_cell(cell)
        case ("write", cell, value):
            return layout.is_cell(cell) and is_value(value)
        case ("swap", cell, old, new):
            return layout.is_cell(cell) and is_value(old) and is_value(new)
        case ("decide", cell, word):
            return layout.is_cell(cell) and isinstance(word, str)
        case ("flush", cell):
            return layout.is_lasting(cell)
        case ("fence",):
            return True
    return False


def lasting_accesses(cells):
    """The accesses by which a thread makes cells last: each is flushed, and then it makes a fence."""
    return [("flush", cell) for cell in cells] + [("fence",)]


def passing_values(layout):
    """The values of the passing cells at first, in the order of the cells."""
    return [0] + [None] * layout.threads


def first_trails(layout):
    """The trails of a new memory, by the lasting cells in ascending order."""
    trails = {cell: [None] for cell in range(layout.call_slot(0), layout.cells())}
    for index in range(layout.words):
        trails[layout.word(index)] = [layout.record(index)]
        trails[layout.record(index)] = [EMPTY]
    return trails


def no_notes(layout):
    """For each thread a dict from the cells that it has flushed to the noted places, empty."""
    # The latest place of a cell is enough: a fence for it takes away all
    # that the places before it would.
    return [{} for thread in range(layout.threads)]


class Memory:
    """A memory whose lasting cells keep a trail of values."""

    def __init__(self, layout):
        self.layout = layout
        self.count = 0
        self._passing = passing_values(layout)
        self._trails = first_trails(layout)
        # How many values a trail has lost at its beginning. A noted place
        # counts them too, so that it stays the same place when more are lost.
        self._lost = {cell: 0 for cell in self._trails}
        self._notes = no_notes(layout)
        self._log = []

    def access(self, thread, request):
        """Make an access of a thread; the pair (result, number of the access)."""
        if not self.layout.has_thread(thread) or not is_access(self.layout, request):
            raise NotValid()
        self.count += 1
        self._log.append((self.count, thread, request))
        return self._result(thread, request), self.count

    def peek(self, cell):
        """The present value of a cell, without an access."""
        if not self.layout.is_cell(cell):
            raise NotValid()
        if self.layout.is_lasting(cell):
            return self._trails[cell][-1]
        return self._passing[cell]

    def lasting(self, cell):
        """The lasting value of a lasting cell, without an access."""
        self._ask_lasting(cell)
        return self._trails[cell][0]

    def trail(self, cell):
        """A new list of the values of a lasting cell, from the lasting to the present one."""
        self._ask_lasting(cell)
        return list(self._trails[cell])

    def drift(self, cell, steps):
        """Let a lasting cell drift by some steps."""
        self._ask_lasting(cell)
        if not is_many(steps):
            raise NotValid()
        self._shorten(cell, steps)

    def cut(self, choices):
        """Cut the power, with a list of how far the lasting cells drift first."""
        if not isinstance(choices, list) or not all([is_many(steps) for steps in choices]):
            raise NotValid()
        cells = list(self._trails)
        for cell, steps in zip(cells, choices):
            self._shorten(cell, steps)
        for cell in cells:
            del self._trails[cell][1:]
        self._passing = passing_values(self.layout)
        self._notes = no_notes(self.layout)

    def log(self):
        """A new list of the accesses so far: tuples (number, thread, request)."""
        return list(self._log)

    def _ask_lasting(self, cell):
        if not self.layout.is_lasting(cell):
            raise NotValid()

    def _result(self, thread, request):
        match request:
            case ("read", cell):
                return self.peek(cell)
            case ("write", cell, value):
                self._give(cell, value)
            case ("swap", cell, old, new):
                return self._give_if(cell, old, new)
            case ("decide", cell, word):
                return self._give_if(cell, 0, (word, self.count))
            case ("flush", cell):
                self._notes[thread][cell] = self._lost[cell] + len(self._trails[cell]) - 1
            case ("fence",):
                self._fence(thread)
        return None

    def _give(self, cell, value):
        if self.layout.is_lasting(cell):
            self._trails[cell].append(value)
        else:
            self._passing[cell] = value

    def _give_if(self, cell, old, new):
        if not is_same(self.peek(cell), old):
            return False
        self._give(cell, new)
        return True

    def _fence(self, thread):
        notes = self._notes[thread]
        self._notes[thread] = {}
        for cell, place in notes.items():
            self._shorten(cell, place - self._lost[cell])

    def _shorten(self, cell, steps):
        trail = self._trails[cell]
        # Steps below 0: the trail has lost the noted place already.
        many = max(0, min(steps, len(trail) - 1))
        del trail[:many]
        self._lost[cell] += many
