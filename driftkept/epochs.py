"""Epochs: when a record cell that was taken out of the store can be taken anew."""

from driftkept.machines import Machine
from driftkept.values import is_same


class Store:
    """The free record cells of a thread, and those that wait."""

    def __init__(self, layout, thread, cells):
        self.layout = layout
        self.thread = thread
        self._free = sorted(cells)
        self._waiting = []
        self._out = []

    def take(self, many):
        """A new list of so many of the least free cells, which are taken; None if there are not enough."""
        if many > len(self._free):
            return None
        taken = self._free[:max(0, many)]
        self._free = self._free[len(taken):]
        return taken

    def give_back(self, cells):
        """Make cells free that were taken and never shown."""
        self._free = sorted([*self._free, *cells])

    def take_out(self, cells):
        """Note cells that the present call has taken out."""
        self._out = [*self._out, *cells]

    def free_cells(self):
        """A new list of the free cells, ascending."""
        return list(self._free)

    def waiting(self):
        """A new list of what waits, oldest first: tuples (stamp or None, list of cells)."""
        rows = [(stamp, list(cells)) for stamp, cells in self._waiting]
        if self._out:
            rows.append((None, list(self._out)))
        return rows

    def has_taken_out(self):
        """True if the present call has taken something out."""
        return bool(self._out)

    def has_waiting(self):
        """True if something waits with a stamp."""
        return bool(self._waiting)

    def stamp(self, epoch):
        """Give what the present call has taken out its stamp."""
        self._waiting.append((epoch, self._out))
        self._out = []

    def free_up_to(self, last):
        """Make the cells with a stamp of at most the last one free."""
        rows = self._waiting
        self._waiting = [row for row in rows if row[0] > last]
        self.give_back([cell for stamp, cells in rows if stamp <= last for cell in cells])


def divided(layout, cells, thread):
    """Those of the record cells that belong to the thread, ascending."""
    first = layout.record(0)
    return sorted([cell for cell in cells if (cell - first) % layout.threads == thread])


class Entering(Machine):
    """Enters a call, and ends with the epoch."""

    def __init__(self, store):
        Machine.__init__(self)
        self._epoch_cell = store.layout.epoch()
        self._slot = store.layout.epoch_slot(store.thread)
        self._entered = None
        self._ask([("read", self._epoch_cell)], self._take_epoch)

    def request(self):
        """What the machine wants next; it changes nothing."""
        return self._wanted

    def accept(self, result):
        """Take the result of what was requested."""
        self._go_on(result)

    def _take_epoch(self, result):
        epoch = result[0]
        if epoch == self._entered:
            self._end(epoch)
        else:
            # The epoch may move on before the slot shows it, and then nobody has waited for it.
            self._entered = epoch
            self._ask([("write", self._slot, epoch), ("read", self._epoch_cell)], self._take_epoch)


class Leaving(Machine):
    """Leaves a call, and ends with None."""

    def __init__(self, store):
        Machine.__init__(self)
        self._store = store
        self._epoch_cell = store.layout.epoch()
        self._slots = other_slots(store)
        self._epoch = 0
        if store.has_taken_out():
            self._ask([("read", self._epoch_cell)], self._take_stamp)
        else:
            self._leave()

    def request(self):
        """What the machine wants next; it changes nothing."""
        return self._wanted

    def accept(self, result):
        """Take the result of what was requested."""
        self._go_on(result)

    def _take_stamp(self, result):
        self._store.stamp(result[0])
        self._leave()

    def _leave(self):
        slot = self._store.layout.epoch_slot(self._store.thread)
        requests = [("write", slot, None)]
        if self._store.has_waiting():
            self._ask([*requests, ("read", self._epoch_cell)], self._take_epoch)
        else:
            self._ask(requests, self._end_here)

    def _end_here(self, result):
        self._end(None)

    def _take_epoch(self, result):
        self._epoch = result[0]
        self._look()

    def _look(self):
        if self._slots:
            self._ask([("read", self._slots.pop(0))], self._take_slot)
        else:
            self._ask([("swap", self._epoch_cell, self._epoch, self._epoch + 1)], self._take_swap)

    def _take_slot(self, result):
        held = result[0]
        if held is None or is_same(held, self._epoch):
            self._look()
        else:
            self._free_waiting(self._epoch)

    def _take_swap(self, result):
        self._free_waiting(self._epoch + 1 if result[0] else self._epoch)

    def _free_waiting(self, known):
        # A call that goes on when a cell is taken out can see the epoch move
        # on once. Until it leaves, its late mark can lead a newer call to the
        # cell, and that one can see the epoch move on once more.
        self._store.free_up_to(known - 3)
        self._end(None)


def other_slots(store):
    """The epoch slots of the other threads, ascending."""
    layout = store.layout
    return [layout.epoch_slot(thread) for thread in range(layout.threads) if thread != store.thread]
