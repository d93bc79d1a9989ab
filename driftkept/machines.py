"""Machines, and the stack on which a thread runs them."""

from driftkept.errors import NotValid


class Machine:
    """The plainest machine: it ends at once with None.

    Others stand below it. They define both methods anew, and tell by `_ask`
    and `_end` what they want.
    """

    def __init__(self):
        self._wanted = ("end", None)
        self._left = []
        self._then = None

    def request(self):
        """What the machine wants next; it changes nothing."""
        return self._wanted

    def accept(self, result):
        """Take the result of what was requested."""
        self._go_on(result)

    def _ask(self, requests, then):
        # Several requests are made one after the other, and `then`, a method
        # of the machine, takes the result of the last one alone.
        self._wanted = requests[0]
        self._left = requests[1:]
        self._then = then

    def _end(self, value):
        self._wanted = ("end", value)

    def _go_on(self, result):
        if self._left:
            self._wanted = self._left.pop(0)
        else:
            then = self._then
            then(result)


class Stack:
    """The stack of a thread, with one machine at first; it is not settled yet."""

    def __init__(self, machine):
        self._machines = [machine]
        self._value = None

    def step(self, memory, thread):
        """Make one step; True if an access was made."""
        self._check_thread(memory, thread)
        self._settle()
        if not self._machines:
            return False
        machine = self._machines[-1]
        machine.accept(memory.access(thread, machine.request()))
        self._settle()
        return True

    def ended(self):
        """True if the stack is empty."""
        return not self._machines

    def value(self):
        """The value with which the first machine ended, or None if it has not."""
        return self._value

    def _check_thread(self, memory, thread):
        # What settling hands to a machine cannot be taken back, so a thread
        # that does not exist is refused before it. A machine that ends at
        # once makes no access, and nobody asks for its thread.
        if self._machines and self._machines[-1].request()[0] != "end":
            if not memory.layout.has_thread(thread):
                raise NotValid()

    def _settle(self):
        while self._machines:
            request = self._machines[-1].request()
            if request[0] == "call":
                self._machines.append(request[1])
            elif request[0] == "end":
                self._end(request[1])
            else:
                return

    def _end(self, value):
        self._machines.pop()
        if self._machines:
            self._machines[-1].accept(value)
        else:
            self._value = value
