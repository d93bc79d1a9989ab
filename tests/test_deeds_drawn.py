"""Points [15] to [17]: deeds of several threads in drawn orders, with drifts and cuts."""

import copy
import random
import unittest

from driftkept.deeds import Doing, deed_record
from driftkept.machines import Stack
from driftkept.memory import Layout, Memory
from driftkept.reads import is_done, shown_now
from support import lasting_cells, write_lasting

WORDS = 4


class Deed:
    def __init__(self, address, status, entries):
        self.address = address
        self.status = status
        self.entries = entries
        # Whether a word showed another address than its old one since the doing began.
        self.disturbed = False


class Play:
    """Threads that do their own deeds and those of others, checked behind every access."""

    def __init__(self, seed, threads, without=0):
        self.draw = random.Random(seed)
        self.memory = Memory(Layout(threads, WORDS, 200))
        self.layout = self.memory.layout
        self.words = [self.layout.word(index) for index in range(WORDS)]
        self.without = without
        self.used = WORDS
        self.deeds = []
        self.doings = [None] * threads
        # All values that the words have had, and the places in them from which on they last.
        self.values = {word: [self.memory.peek(word)] for word in self.words}
        self.lasts = {word: 0 for word in self.words}
        self.cleaned = [{} for _ in range(threads)]

    # What happens

    def fresh(self):
        self.used += 1
        return self.layout.record(self.used - 1)

    def begin(self, thread):
        """Let a thread begin the doing of a new deed, or of one that there is."""
        if self.deeds and self.draw.random() < 0.4:
            deed = self.draw.choice(self.deeds[-3:])
        else:
            deed = self.new_deed(thread)
        self.doings[thread] = (deed, Stack(Doing(deed.address, self.without)))
        self.cleaned[thread] = {}

    def new_deed(self, thread):
        chosen = sorted(self.draw.sample(range(WORDS), self.draw.randrange(1, WORDS + 1)))
        entries = []
        for index in chosen:
            old = shown_now(self.memory, index)
            if self.draw.random() < 0.1:
                old = self.layout.record(self.draw.randrange(WORDS))
            entries.append((self.words[index], old, self.fresh()))
        status, address = self.fresh(), self.fresh()
        write_lasting(self.memory, thread, status, 0)
        write_lasting(self.memory, thread, address, deed_record(status, entries, thread, 1, None))
        self.deeds.append(Deed(address, status, entries))
        self.disturb()
        return self.deeds[-1]

    def step(self, thread):
        """Make an access of a thread, and check what it has done; None, or what is wrong."""
        deed, stack = self.doings[thread]
        shown, held = self.shown(), self.held()
        statuses = [self.memory.peek(deed.status) for deed in self.deeds]
        stack.step(self.memory, thread)
        request = self.memory.log()[-1][2]
        self.note(thread, request, held)
        fault = self.shown_fault(shown, statuses) or self.mark_fault()
        self.disturb()
        if stack.ended():
            fault = fault or self.end_fault(thread, deed, stack.value())
            self.doings[thread] = None
        return fault

    def note(self, thread, request, held):
        """Note what a swap has given a word, and where the word stands when a thread has cleaned it."""
        if request[0] != "swap":
            return
        word, old, new = request[1:]
        if held[self.words.index(word)] == old:
            self.values[word].append(new)
        if isinstance(old, tuple):
            self.cleaned[thread][(old[0], word)] = len(self.values[word]) - 1

    def drift(self):
        self.memory.drift(self.draw.choice(lasting_cells(self.memory)), self.draw.randrange(4))

    # What must hold

    def shown(self):
        return [shown_now(self.memory, index) for index in range(WORDS)]

    def held(self):
        return [self.memory.peek(word) for word in self.words]

    def disturb(self):
        shown = dict(zip(self.words, self.shown()))
        for deed in self.deeds:
            if any(shown[word] != old for word, old, new in deed.entries):
                deed.disturbed = True

    def shown_fault(self, shown, statuses):
        """Point [15], and that a deed is decided once and fails only by [17]."""
        expected = list(shown)
        for deed, status in zip(self.deeds, statuses):
            present = self.memory.peek(deed.status)
            if present == status:
                continue
            if status != 0 or present[1] != self.memory.count:
                return "decided twice"
            if present[0] == "failed" and not deed.disturbed:
                return "failed undisturbed"
            if is_done(present):
                for word, old, new in deed.entries:
                    if expected[self.words.index(word)] != old:
                        return "done from another address"
                    expected[self.words.index(word)] = new
        return "" if expected == self.shown() else "shown"

    def mark_fault(self):
        """Point [16]: the status of a done deed lasts when a word does not hold its mark."""
        for deed in self.deeds:
            status = self.memory.peek(deed.status)
            marked = [held[0] for held in self.held() if isinstance(held, tuple)].count(deed.address)
            if is_done(status) and marked < len(deed.entries) and self.memory.lasting(deed.status) != status:
                return "status"
        return ""

    def end_fault(self, thread, deed, value):
        """Point [16]: the words of a deed whose doing has ended last as they were cleaned, or later."""
        if value != self.memory.peek(deed.status) or value == 0:
            return "value"
        for word, old, new in deed.entries:
            place = self.cleaned[thread][(deed.address, word)]
            if len(self.values[word]) - len(self.memory.trail(word)) < place:
                return "word"
            self.lasts[word] = max(self.lasts[word], place)
            held = self.memory.peek(word)
            if isinstance(held, tuple) and held[0] == deed.address and is_done(value):
                return "mark of a done deed"
        return ""

    def cut_fault(self):
        """Cut the power in a copy: what lasts is there behind it."""
        memory = copy.deepcopy(self.memory)
        memory.cut([self.draw.randrange(3) for _ in lasting_cells(memory)])
        for word in self.words:
            if memory.peek(word) not in self.values[word][self.lasts[word]:]:
                return "word behind a cut"
        for deed in self.deeds:
            status = self.memory.peek(deed.status)
            plain = any(memory.peek(word) == new for word, old, new in deed.entries)
            if is_done(status) and plain and memory.peek(deed.status) != status:
                return "status behind a cut"
        return ""


def play(seed, threads, without=0, accesses=150):
    """Play a drawn order, and then let every doing end; the first fault, or ""."""
    game = Play(seed, threads, without)
    draw = game.draw
    thread = 0
    for _ in range(accesses):
        # A thread often makes several accesses in a row, so that others are late.
        if draw.random() < 0.3:
            thread = draw.randrange(threads)
        if game.doings[thread] is None:
            if game.used > 180:
                break
            game.begin(thread)
        fault = game.step(thread)
        if not fault and draw.random() < 0.3:
            game.drift()
        if not fault and draw.random() < 0.1:
            fault = game.cut_fault()
        if fault:
            return fault
    return end(game, draw.sample(range(threads), draw.randrange(1, threads + 1)))


def end(game, going):
    """Let the threads that still go on end, one after the other; the others have stopped for ever."""
    for thread in going:
        for _ in range(500):
            if game.doings[thread] is None:
                break
            fault = game.step(thread)
            if fault:
                return fault
        else:
            return "does not end"
    return ""


class Drawn(unittest.TestCase):
    def test_one_thread(self):
        for seed in range(10):
            self.assertEqual(play(seed, 1), "", seed)

    def test_two_threads(self):
        for seed in range(80):
            self.assertEqual(play(seed, 2), "", seed)

    def test_three_threads(self):
        for seed in range(100):
            self.assertEqual(play(seed, 3), "", seed)

    def test_what_is_left_out_is_missed(self):
        faults = {without: {play(seed, 2, without) for seed in range(20)} for without in (4, 5)}
        self.assertEqual(faults[4] - {""}, {"status"})
        self.assertEqual(faults[5] - {""}, {"word"})


if __name__ == "__main__":
    unittest.main()
