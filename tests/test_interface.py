"""The interface: names, arguments, and the file and class that defines each."""

import ast
import pathlib
import unittest

from codecolumns.disk import Disk
from codecolumns.store import Store

PACKAGE = pathlib.Path(__file__).resolve().parent.parent / "codecolumns"

FUNCTIONS = {
    "packing": {
        "per_cell": ["base"],
        "packed": ["base", "values"],
        "read_packed": ["base", "cells", "place"],
    },
    "forms": {
        "laid": ["name", "values"],
        "least_form": ["values"],
        "room": ["form"],
        "values_of": ["form"],
        "value_at": ["form", "place"],
    },
    "cutting": {
        "cut": ["values"],
        "prices": ["values"],
        "bound": ["values", "told"],
    },
    "notes": {
        "written": ["kinds", "condition"],
        "read": ["kinds", "text"],
    },
}
METHODS = {
    ("disk", "Disk"): {
        "__init__": ["self"],
        "write": ["self", "block", "what"],
        "settle": ["self"],
        "arm": ["self", "deeds", "picks"],
        "stop": ["self", "picks"],
        "again": ["self"],
        "read": ["self", "block"],
        "blocks": ["self"],
    },
    ("store", "Store"): {
        "__init__": ["self", "disk", "kinds"],
        "put": ["self", "rows"],
        "drop": ["self", "condition"],
        "tidy": ["self"],
        "passed": ["self", "condition"],
        "unlike": ["self", "column", "condition"],
        "groups": ["self", "column", "other", "condition"],
        "rows": ["self", "condition"],
        "first": ["self", "column", "many", "condition"],
        "told_heaps": ["self"],
        "lay": ["self", "one", "other"],
        "count": ["self", "condition"],
        "total": ["self", "column", "condition"],
        "cells": ["self"],
        "free": ["self"],
        "ends": ["self", "column", "condition"],
        "marks": ["self", "name"],
    },
}
ERRORS = [
    "ColumnError", "BadNumber", "BadValues", "NoForm", "BadPrices", "BadKinds", "BadRows",
    "BadCondition", "BadColumn", "BadHeap", "TooMany", "BadBlock", "Stopped", "BadText",
]


def body_of(name):
    return ast.parse((PACKAGE / f"{name}.py").read_text()).body


def arguments_of(body):
    """The arguments of each function that is defined there."""
    defined = {}
    for node in body:
        if isinstance(node, ast.FunctionDef):
            defined[node.name] = [argument.arg for argument in node.args.args]
    return defined


class InterfaceTest(unittest.TestCase):
    def test_functions_are_defined_in_their_files(self):
        for name, functions in FUNCTIONS.items():
            defined = arguments_of(body_of(name))
            for function, arguments in functions.items():
                self.assertEqual(defined.get(function), arguments, function)

    def test_methods_are_defined_in_their_classes(self):
        for (name, owner), methods in METHODS.items():
            bodies = [node.body for node in body_of(name) if isinstance(node, ast.ClassDef) and node.name == owner]
            self.assertEqual(len(bodies), 1, owner)
            defined = arguments_of(bodies[0])
            for method, arguments in methods.items():
                self.assertEqual(defined.get(method), arguments, method)

    def test_errors_are_defined_in_their_file(self):
        defined = [node.name for node in body_of("errors") if isinstance(node, ast.ClassDef)]
        self.assertEqual(defined, ERRORS)


class KindsOfValuesTest(unittest.TestCase):
    """What is told is of the very kinds that the interface lists; no truth where a number is told."""

    def told(self, value, kind):
        self.assertIs(value.__class__, kind, value)

    def test_of_a_disk(self):
        disk = Disk()
        for told in (disk.write(0, 1), disk.settle(), disk.arm(9, []), disk.stop([]), disk.again()):
            self.assertIsNone(told)
        self.told(disk.blocks(), list)

    def test_of_a_store(self):
        every = ("all",)
        store = Store(Disk(), ("number", "word"))
        self.told(store.put([(1, "a"), (2, "b"), (1, "c")]), tuple)
        store.put([(1, "a")])
        lists = [
            store.drop(("is", 1, "b")), store.passed(every), store.unlike(0, every), store.groups(1, 0, every),
            store.rows(every), store.first(0, 3, every), store.told_heaps(), store.marks(0),
        ]
        for told in lists:
            self.told(told, list)
            for item in told:
                self.assertIn(item.__class__, (int, tuple))
        self.told(store.ends(0, every), tuple)
        for heap in store.told_heaps():
            for number in heap:
                self.told(number, int)
        for number in (store.count(every), store.total(0, every), store.cells(), store.free(),
                       store.count(("is", 0, 5)), store.lay(0, 1)):
            self.told(number, int)
        self.told(store.tidy(), list)


if __name__ == "__main__":
    unittest.main()
