"""What is needed: for each thing that a call can leave out, acts that break the store without it."""

from driftkept.checks import shape_fault, shown_map
from driftkept.errors import NotValid
from driftkept.judge import first_fault, map_at
from driftkept.values import is_within
from driftkept.world import World

RECORDS = 60
FAR = 10 ** 6
PUT = ("put", 0, 1)


def fault_of(world):
    """The word of the fault of a world, or ""; while it recovers there is none to be told."""
    if world.recovering():
        return ""
    rows = world.history()
    if first_fault(rows)[0]:
        return "history"
    if shape_fault(world.memory):
        return "memory"
    if shown_map(world.memory) != map_at(rows, world.memory.count):
        return "map"
    return ""


def breaking(place):
    """The tuple (calls, acts) that breaks a world that leaves out this place."""
    if not is_within(place, 1, 7):
        raise NotValid()
    acts = []
    for begun in lists_of(place):
        world = World(calls_of(place), RECORDS, place)
        world.play(begun)
        acts = begun + cut_and_recover(world)
        if fault_of(world):
            break
    return (calls_of(place), acts)


def cut_and_recover(world):
    """Cut the power and let the recovery end; the list of the acts."""
    acts = [("cut", [])]
    world.play(acts)
    while world.recovering():
        world.play([0])
        acts.append(0)
    return acts


def calls_of(place):
    """The calls that are made for a place."""
    if place == 7:
        return [[("put", 0, value) for value in range(1, 15)]]
    if place == 4:
        return [[PUT, ("move", 0, 1)]]
    if place == 3 or place == 6:
        return [[PUT], [("look", 0)]]
    return [[PUT]]


def lists_of(place):
    """The lists of acts that are tried for a place, in their order."""
    if place == 7:
        return slot_lists(place)
    if place == 4:
        word = World(calls_of(place), RECORDS, place).layout.word(1)
        return [[0] * picks + [("drift", word, FAR)] for picks in range(50, 91)]
    if place == 3 or place == 6:
        return [[0] * picks + [1] * 90 for picks in range(16, 91)]
    if place == 2:
        return [[0] * picks for picks in range(16, 91)]
    return [[0] * 90]


def slot_lists(place):
    """For each access by which the call slot begins to lead to another deed the acts with drifts behind it."""
    world = World(calls_of(place), RECORDS, place)
    slot = world.layout.call_slot(0)
    lists = []
    picks = []
    before = None
    while not world.idle(0):
        world.play([0])
        picks.append(0)
        held = world.memory.peek(slot)
        if held != before and held[0] == "deed":
            lists.append(picks + [("drift", slot, FAR), ("drift", held[2], FAR)])
        before = held
    return lists
