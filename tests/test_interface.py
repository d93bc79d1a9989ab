"""The first paragraphs of the interface: names, arguments, files, attributes, methods."""

import ast
import importlib
import inspect
import pathlib
import unittest

from driftkept.calls import KeyCall, machine_of
from driftkept.deeds import Doing
from driftkept.epochs import Entering, Leaving, Store
from driftkept.machines import Machine, Stack
from driftkept.memory import Layout, Memory
from driftkept.plans import buckets_of, is_call, plan
from driftkept.reads import Shown
from driftkept.recovery import Recovering
from driftkept.world import World

PACKAGE = pathlib.Path(__file__).resolve().parent.parent / "driftkept"

FUNCTIONS = {
    "memory": {"is_mark": ["value"]},
    "reads": {"shown_now": ["memory", "index"]},
    "deeds": {"deed_record": ["status", "entries", "thread", "number", "answer"]},
    "epochs": {"divided": ["layout", "cells", "thread"]},
    "records": {
        "bucket_of": ["key"],
        "is_items": ["value", "bucket"],
        "value_in": ["record", "key"],
        "with_item": ["record", "key", "value"],
        "without_item": ["record", "key"],
    },
    "plans": {"is_call": ["value"], "buckets_of": ["call"], "plan": ["call", "records"]},
    "calls": {"machine_of": ["store", "call", "number", "without"]},
    "judge": {
        "answer_of": ["plain", "call"],
        "after_call": ["plain", "call"],
        "is_change": ["row"],
        "in_order": ["rows"],
        "map_at": ["rows", "number"],
        "first_fault": ["rows"],
    },
    "checks": {
        "first_fault": ["memory", "stores"],
        "shape_fault": ["memory"],
        "shown_map": ["memory"],
        "lasting_map": ["memory"],
    },
    "needed": {"fault_of": ["world"], "breaking": ["place"]},
}

# What has default values; nothing else has.
DEFAULTS = [
    (Doing, {"without": 0}),
    (KeyCall, {"without": 0}),
    (machine_of, {}),
    (World, {"records": 60, "without": 0}),
]

# What makes a class a machine (point [3]).
MACHINE = {"request": [], "accept": ["result"]}

# For each class the arguments with which it is made, and its methods with theirs.
CLASSES = {
    "errors": {"LineError": (None, {}), "NotValid": (None, {}), "Broken": (None, {})},
    "machines": {"Stack": (["machine"], {"step": ["memory", "thread"], "ended": [], "value": []})},
    "memory": {
        "Layout": (
            ["threads", "words", "records"],
            {
                "epoch": [],
                "epoch_slot": ["thread"],
                "call_slot": ["thread"],
                "word": ["index"],
                "record": ["index"],
                "cells": [],
                "is_record": ["cell"],
                "is_lasting": ["cell"],
            },
        ),
        "Memory": (
            ["layout"],
            {
                "access": ["thread", "request"],
                "peek": ["cell"],
                "lasting": ["cell"],
                "trail": ["cell"],
                "drift": ["cell", "steps"],
                "cut": ["choices"],
                "log": [],
            },
        ),
    },
    "reads": {"Shown": (["layout", "index"], MACHINE)},
    "deeds": {"Doing": (["address", "without"], MACHINE)},
    "epochs": {
        "Store": (
            ["layout", "thread", "cells"],
            {
                "take": ["many"],
                "give_back": ["cells"],
                "take_out": ["cells"],
                "free_cells": [],
                "waiting": [],
            },
        ),
        "Entering": (["store"], MACHINE),
        "Leaving": (["store"], MACHINE),
    },
    "calls": {"KeyCall": (["store", "call", "number", "without"], MACHINE)},
    "recovery": {"Recovering": (["layout"], MACHINE)},
    "world": {
        "World": (
            ["calls", "records", "without"],
            {"play": ["acts"], "settle": ["rounds"], "recovering": [], "idle": ["thread"], "history": []},
        ),
    },
}


def module_of(name):
    return importlib.import_module("driftkept." + name)


def arguments(function):
    return [name for name in inspect.signature(function).parameters if name != "self"]


class Interface(unittest.TestCase):
    def check_place(self, thing, name):
        self.assertEqual(thing.__module__, "driftkept." + name)

    def test_functions(self):
        for name, functions in FUNCTIONS.items():
            for function, expected in functions.items():
                found = getattr(module_of(name), function)
                self.check_place(found, name)
                self.assertEqual(arguments(found), expected)

    def test_classes(self):
        for name, classes in CLASSES.items():
            for title, (expected, methods) in classes.items():
                found = getattr(module_of(name), title)
                self.check_place(found, name)
                if expected is not None:
                    self.assertEqual(arguments(found.__init__), expected)
                for method, taken in methods.items():
                    self.assertIn(method, vars(found), title)
                    self.assertEqual(arguments(vars(found)[method]), taken)

    def test_attributes_are_set_when_the_object_is_created(self):
        layout = Layout(2, 3, 4)
        self.assertEqual((vars(layout)["threads"], vars(layout)["words"], vars(layout)["records"]), (2, 3, 4))
        memory = Memory(layout)
        self.assertIs(vars(memory)["layout"], layout)
        self.assertEqual(vars(memory)["count"], 0)
        store = Store(layout, 1, [20])
        self.assertIs(vars(store)["layout"], layout)
        self.assertEqual(vars(store)["thread"], 1)
        call = KeyCall(store, ("look", 0), 1)
        self.assertEqual((vars(call)["done"], vars(call)["status"]), (None, None))
        world = World([[("look", 0)], []])
        self.assertIs(vars(world)["memory"].layout, vars(world)["layout"])
        self.assertEqual([one.thread for one in vars(world)["stores"]], [0, 1])

    def test_arguments_by_name(self):
        memory = Memory(layout=Layout(threads=1, words=1, records=4))
        self.assertEqual(memory.access(thread=0, request=("fence",)), (None, 1))
        self.assertIs(Stack(machine=Machine()).step(memory=memory, thread=0), False)
        self.assertEqual(Shown(layout=memory.layout, index=0).request(), ("read", memory.layout.word(0)))
        self.assertEqual(Doing(address=6, without=5).request(), ("read", 6))
        store = Store(layout=memory.layout, thread=0, cells=[6])
        self.assertEqual(Entering(store=store).request()[0], "read")
        self.assertEqual(Leaving(store=store).request()[0], "write")
        call = {"store": store, "call": ("look", 0), "number": 1, "without": 0}
        self.assertEqual(KeyCall(**call).request()[0], "call")
        self.assertEqual(machine_of(**call).request()[0], "call")
        self.assertEqual(plan(call=("look", 0), records={0: ("items", ())}), ("answer", None, 0))
        self.assertEqual(buckets_of(call=("look", 5)), [1])
        self.assertIs(is_call(value=("look", 5)), True)
        self.assertEqual(Recovering(layout=memory.layout).request(), ("read", memory.layout.call_slot(0)))

    def test_arguments_of_worlds_and_what_looks_at_them_by_name(self):
        world = World(calls=[[("put", 0, 5)]], records=20, without=0)
        self.assertEqual(world.play(acts=[0]), [True])
        self.assertIs(world.settle(rounds=90), True)
        self.assertIs(world.idle(thread=0), True)
        rows = world.history()
        judge, checks, needed = module_of("judge"), module_of("checks"), module_of("needed")
        self.assertEqual(judge.first_fault(rows=rows), ("", -1))
        self.assertEqual(judge.map_at(rows=rows, number=world.memory.count), {0: 5})
        self.assertEqual((judge.in_order(rows=rows), judge.is_change(row=rows[0])), ([0], True))
        self.assertEqual(judge.answer_of(plain={}, call=("look", 0)), None)
        self.assertEqual(judge.after_call(plain={}, call=("put", 0, 1)), {0: 1})
        self.assertEqual(checks.first_fault(memory=world.memory, stores=world.stores), "")
        self.assertEqual(checks.shape_fault(memory=world.memory), "")
        self.assertEqual(checks.shown_map(memory=world.memory), {0: 5})
        self.assertEqual(checks.lasting_map(memory=world.memory), {0: 5})
        self.assertEqual(needed.fault_of(world=world), "")
        self.assertEqual(len(needed.breaking(place=1)), 2)

    def test_what_has_a_default(self):
        for function, defaults in DEFAULTS:
            parameters = inspect.signature(function).parameters.values()
            found = {one.name: one.default for one in parameters if one.default is not inspect.Parameter.empty}
            self.assertEqual(found, defaults)

    def test_constants(self):
        records = module_of("records")
        self.assertEqual((records.BUCKETS, records.EMPTY), (4, ("items", ())))


class Files(unittest.TestCase):
    def files(self):
        return sorted(PACKAGE.glob("**/*.py"))

    def test_the_package_holds_plain_files_alone(self):
        found = [path for path in PACKAGE.glob("**/*") if "__pycache__" not in path.parts]
        self.assertEqual(sorted(found), self.files())
        self.assertIn(PACKAGE / "__init__.py", found)

    def test_sizes_and_signs(self):
        for path in self.files():
            lines = path.read_bytes().decode("ascii").split("\n")
            self.assertLessEqual(len(lines), 399, path)
            for number, line in enumerate(lines, 1):
                self.assertLessEqual(len(line), 120, (path, number))
                self.assertTrue(line == "" or line.isprintable(), (path, number))

    def test_imports_are_from_the_package_alone(self):
        for path in self.files():
            for node in ast.walk(ast.parse(path.read_text())):
                self.assertNotIsInstance(node, ast.Import, path)
                if isinstance(node, ast.ImportFrom):
                    self.assertTrue(node.module.startswith("driftkept."), (path, node.module))


if __name__ == "__main__":
    unittest.main()
