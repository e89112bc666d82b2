"""The interface as far as it has landed: names, arguments, and the file that defines each."""

import ast
import pathlib
import unittest

PACKAGE = pathlib.Path(__file__).resolve().parent.parent / "codecolumns"

FUNCTIONS = {
    "packing": {
        "per_cell": ["base"],
        "packed": ["base", "values"],
        "read_packed": ["base", "cells", "place"],
    },
    "forms": {
        "laid": ["name", "values"],
        "least_form": ["values"],
        "room": ["form"],
        "values_of": ["form"],
        "value_at": ["form", "place"],
    },
}
ERRORS = [
    "ColumnError", "BadNumber", "BadValues", "NoForm", "BadPrices", "BadKinds", "BadRows",
    "BadCondition", "BadColumn", "BadHeap", "TooMany", "BadBlock", "Stopped", "BadText",
]


def body_of(name):
    return ast.parse((PACKAGE / f"{name}.py").read_text()).body


class InterfaceTest(unittest.TestCase):
    def test_functions_are_defined_in_their_files(self):
        for name, functions in FUNCTIONS.items():
            defined = {}
            for node in body_of(name):
                if isinstance(node, ast.FunctionDef):
                    defined[node.name] = [argument.arg for argument in node.args.args]
            for function, arguments in functions.items():
                self.assertEqual(defined.get(function), arguments, function)

    def test_errors_are_defined_in_their_file(self):
        defined = [node.name for node in body_of("errors") if isinstance(node, ast.ClassDef)]
        self.assertEqual(defined, ERRORS)


if __name__ == "__main__":
    unittest.main()
