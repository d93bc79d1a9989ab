"""The checker: what a memory shows, and what is wrong with it."""

from driftkept.errors import Broken
from driftkept.memory import is_mark
from driftkept.reads import shown_now
from driftkept.records import is_items
from driftkept.recovery import Recovering


def first_fault(memory, stores):
    """The word of the first fault of a memory and the stores of its threads, or ""."""
    fault = shape_fault(memory)
    if fault or is_entered(memory):
        return fault
    if any([is_mark(memory.peek(memory.layout.word(index))) for index in range(memory.layout.words)]):
        return "mark"
    return "lost" if is_some_lost(memory, stores) else ""


def shape_fault(memory):
    """The first of "word", "record" and "twice" that there is, or ""."""
    layout = memory.layout
    addresses = shown_addresses(memory)
    if not all([layout.is_record(address) for address in addresses]):
        return "word"
    if not all([is_items(memory.peek(address), index) for index, address in enumerate(addresses)]):
        return "record"
    return "twice" if len(set(addresses)) < len(addresses) else ""


def shown_map(memory):
    """The dict of all pairs of the shown records."""
    if shape_fault(memory):
        raise Broken()
    return pairs_of([memory.peek(address) for address in shown_addresses(memory)])


def lasting_map(memory):
    """The map that a recovery would show if the power were cut now and nothing drifted."""
    layout = memory.layout
    words = [memory.lasting(layout.word(index)) for index in range(layout.words)]
    if not all([is_readable(layout, held) for held in words]):
        raise Broken()
    addresses = lasting_addresses(memory)
    if not all([layout.is_record(address) for address in addresses]):
        raise Broken()
    records = [memory.lasting(address) for address in addresses]
    if not all([is_items(record, index) for index, record in enumerate(records)]):
        raise Broken()
    return pairs_of(records)


def pairs_of(records):
    """The dict of all pairs of some records."""
    return {key: value for record in records for key, value in record[1]}


def shown_addresses(memory):
    """The shown values of the words."""
    return [shown_address(memory, index) for index in range(memory.layout.words)]


def shown_address(memory, index):
    """The shown value of a word, or None if it holds neither an address nor a mark."""
    held = memory.peek(memory.layout.word(index))
    return shown_now(memory, index) if is_readable(memory.layout, held) else None


def is_readable(layout, held):
    """True if the value of a word is no tuple, or a mark with a status cell."""
    return not is_mark(held) or len(held) == 4 and layout.is_lasting(held[1])


def lasting_addresses(memory):
    """The addresses with which a recovery would end that finds the lasting values."""
    machine = Recovering(memory.layout)
    request = machine.request()
    while request[0] != "end":
        # It reads all that it wants to know before it writes, so nothing has to be written here.
        value = memory.lasting(request[1]) if request[0] == "read" else None
        machine.accept((value, 0))
        request = machine.request()
    return request[1]


def is_entered(memory):
    """True if an epoch slot holds an epoch."""
    layout = memory.layout
    return any([memory.peek(layout.epoch_slot(thread)) is not None for thread in range(layout.threads)])


def is_some_lost(memory, stores):
    """True if a record cell that no word shows is not in exactly one store."""
    layout = memory.layout
    shown = shown_addresses(memory)
    held = [cells_in(store) for store in stores]
    cells = [layout.record(index) for index in range(layout.records)]
    hidden = [cell for cell in cells if cell not in shown]
    return any([len([row for row in held if cell in row]) != 1 for cell in hidden])


def cells_in(store):
    """The cells that are free or wait in a store."""
    return store.free_cells() + [cell for stamp, cells in store.waiting() for cell in cells]
