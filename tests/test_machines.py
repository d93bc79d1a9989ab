"""Points [3] and [4]: machines and stacks."""

import unittest

from driftkept.errors import NotValid
from driftkept.machines import Machine, Stack
from support import Echo, Listed, a_memory, told


class EndingAtOnce(unittest.TestCase):
    def test_a_new_stack_is_not_settled_yet(self):
        stack = Stack(Listed([("end", 5)]))
        self.assertIs(stack.ended(), False)
        self.assertIsNone(stack.value())

    def test_a_machine_that_ends_at_once_makes_no_access(self):
        memory = a_memory()
        before = told(memory)
        stack = Stack(Listed([("end", 5)]))
        self.assertIs(stack.step(memory, 0), False)
        self.assertIs(stack.ended(), True)
        self.assertEqual(stack.value(), 5)
        self.assertEqual(told(memory), before)

    def test_a_machine_that_ends_at_once_asks_for_no_thread(self):
        for thread in (-1, 2, 9):
            stack = Stack(Listed([("end", 5)]))
            self.assertIs(stack.step(a_memory(threads=2), thread), False)
            self.assertEqual(stack.value(), 5)

    def test_the_plainest_machine_ends_at_once_with_none(self):
        stack = Stack(Machine())
        self.assertIs(stack.step(a_memory(), 0), False)
        self.assertIs(stack.ended(), True)
        self.assertIsNone(stack.value())

    def test_a_step_with_an_empty_stack_changes_nothing(self):
        memory = a_memory()
        machine = Listed([("read", 0), ("end", (1, "a"))])
        stack = Stack(machine)
        stack.step(memory, 0)
        before = told(memory)
        for thread in (0, 1, 9):
            self.assertIs(stack.step(memory, thread), False)
        self.assertEqual(told(memory), before)
        self.assertEqual(stack.value(), (1, "a"))
        self.assertEqual(len(machine.results), 1)


class Accesses(unittest.TestCase):
    def test_an_access_gives_the_pair_of_its_result_and_its_number(self):
        memory = a_memory()
        word = memory.layout.word(0)
        machine = Listed([("read", word), ("write", word, 7), ("swap", word, 8, 9), ("end", "x")])
        memory.access(1, ("fence",))
        stack = Stack(machine)
        for _ in range(3):
            self.assertIs(stack.step(memory, 0), True)
        first = memory.layout.record(0)
        self.assertEqual(machine.results, [(first, 2), (None, 3), (False, 4)])
        self.assertTrue(all(isinstance(pair, tuple) for pair in machine.results))

    def test_a_step_makes_one_access_of_the_thread_that_it_is_told(self):
        memory = a_memory()
        stack = Stack(Listed([("read", 0), ("fence",), ("read", 1), ("end", 0)]))
        for thread in (1, 0, 1):
            stack.step(memory, thread)
        self.assertEqual(memory.log(), [(1, 1, ("read", 0)), (2, 0, ("fence",)), (3, 1, ("read", 1))])

    def test_the_stack_is_empty_directly_behind_the_last_access(self):
        memory = a_memory()
        stack = Stack(Listed([("read", 0), ("fence",), ("end", 3)]))
        self.assertIs(stack.step(memory, 0), True)
        self.assertIs(stack.ended(), False)
        self.assertIsNone(stack.value())
        self.assertIs(stack.step(memory, 0), True)
        self.assertIs(stack.ended(), True)
        self.assertEqual(stack.value(), 3)
        self.assertIs(stack.step(memory, 0), False)

    def test_two_stacks_take_turns_in_one_memory(self):
        memory = a_memory()
        word = memory.layout.word(0)
        one = Listed([("write", word, 5), ("read", word), ("end", 0)])
        other = Listed([("write", word, 6), ("read", word), ("end", 0)])
        stacks = [Stack(one), Stack(other)]
        for thread in (0, 1, 0, 1):
            stacks[thread].step(memory, thread)
        self.assertEqual(one.results, [(None, 1), (6, 3)])
        self.assertEqual(other.results, [(None, 2), (6, 4)])


class Calls(unittest.TestCase):
    def test_the_result_of_a_call_is_the_value_of_the_end(self):
        memory = a_memory()
        called = Listed([("read", 0), ("end", ("told", 4))])
        caller = Listed([("call", called), ("end", "all")])
        stack = Stack(caller)
        self.assertIs(stack.step(memory, 0), True)
        self.assertEqual(called.results, [(0, 1)])
        self.assertEqual(caller.results, [("told", 4)])
        self.assertIs(stack.ended(), True)
        self.assertEqual(stack.value(), "all")

    def test_values_go_up_through_several_machines(self):
        memory = a_memory()
        machines = [Listed([("read", 0), ("end", "deep")])]
        for _ in range(4):
            machines.append(Echo(machines[-1]))
        stack = Stack(machines[-1])
        self.assertIs(stack.step(memory, 0), True)
        self.assertIs(stack.ended(), True)
        value = "deep"
        for machine in machines[1:]:
            self.assertEqual(machine.accepted, [value])
            value = ("echo", value)
        self.assertEqual(stack.value(), value)

    def test_value_is_none_until_the_first_machine_has_ended(self):
        memory = a_memory()
        called = Listed([("read", 0), ("end", "called")])
        stack = Stack(Listed([("call", called), ("read", 1), ("end", "first")]))
        stack.step(memory, 0)
        self.assertEqual(called.results, [(0, 1)])
        self.assertIs(stack.ended(), False)
        self.assertIsNone(stack.value())
        stack.step(memory, 0)
        self.assertEqual(stack.value(), "first")

    def test_a_called_machine_that_ends_without_an_access(self):
        memory = a_memory()
        caller = Listed([("call", Listed([("end", 8)])), ("read", 0), ("end", 9)])
        stack = Stack(caller)
        self.assertIs(stack.step(memory, 0), True)
        self.assertEqual(caller.results, [8, (0, 1)])
        self.assertEqual(stack.value(), 9)

    def test_machines_that_all_end_without_an_access(self):
        memory = a_memory()
        inner = Listed([("call", Listed([("end", 1)])), ("call", Listed([("end", 2)])), ("end", 3)])
        stack = Stack(Listed([("call", inner), ("end", 4)]))
        self.assertIs(stack.step(memory, 0), False)
        self.assertEqual(memory.count, 0)
        self.assertIs(stack.ended(), True)
        self.assertEqual(inner.results, [1, 2])
        self.assertEqual(stack.value(), 4)

    def test_settling_behind_an_access_goes_on_to_the_next_access(self):
        memory = a_memory()
        late = Listed([("call", Listed([("end", 6)])), ("fence",), ("end", 7)])
        stack = Stack(Listed([("read", 0), ("call", late), ("end", 5)]))
        stack.step(memory, 0)
        self.assertEqual(late.results, [6])
        self.assertEqual(memory.count, 1)
        stack.step(memory, 0)
        self.assertEqual(late.results, [6, (None, 2)])
        self.assertEqual(stack.value(), 5)

    def test_a_call_that_ends_with_none_gives_none(self):
        caller = Listed([("call", Machine()), ("end", 1)])
        Stack(caller).step(a_memory(), 0)
        self.assertEqual(caller.results, [None])

    def test_thousands_of_machines_deep(self):
        machine = Listed([("read", 0), ("end", 0)])
        for _ in range(3000):
            machine = Listed([("call", machine), ("end", 0)])
        stack = Stack(machine)
        self.assertIs(stack.step(a_memory(), 0), True)
        self.assertIs(stack.ended(), True)


class Refusals(unittest.TestCase):
    def refuse(self, stack, memory, thread, machines):
        before = told(memory)
        requests = [machine.request() for machine in machines]
        with self.assertRaises(NotValid):
            stack.step(memory, thread)
        self.assertEqual(told(memory), before)
        self.assertEqual([machine.request() for machine in machines], requests)
        self.assertIs(stack.ended(), False)
        self.assertIsNone(stack.value())

    def test_a_thread_that_does_not_exist(self):
        for thread in (-1, 2, 3, True, False, None):
            memory = a_memory(threads=2)
            machine = Listed([("read", 0), ("end", 3)])
            stack = Stack(machine)
            self.refuse(stack, memory, thread, [machine])
            self.assertIs(stack.step(memory, 1), True)
            self.assertEqual(machine.results, [(0, 1)])
            self.assertEqual(stack.value(), 3)

    def test_a_thread_that_does_not_exist_before_a_call_that_ends_at_once(self):
        memory = a_memory(threads=2)
        caller = Listed([("call", Listed([("end", 8)])), ("read", 0), ("end", 9)])
        stack = Stack(caller)
        self.refuse(stack, memory, 2, [caller])
        self.assertEqual(caller.results, [])
        stack.step(memory, 0)
        self.assertEqual(caller.results, [8, (0, 1)])

    def test_an_access_that_is_refused(self):
        memory = a_memory()
        machine = Listed([("read", 0), ("flush", 0), ("end", 3)])
        stack = Stack(machine)
        stack.step(memory, 0)
        self.refuse(stack, memory, 0, [machine])
        self.assertEqual(machine.results, [(0, 1)])


if __name__ == "__main__":
    unittest.main()
