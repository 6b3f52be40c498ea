"""Point 1 and the interface as a whole: what the package draws on, and its names and arguments."""

import ast
import builtins
import importlib
import inspect
import pathlib
import unittest

import peatrick

FOLDER = pathlib.Path(peatrick.__file__).parent

# Neither a clock nor chance nor a file can be reached by these.
HARMLESS = set(
    "len range enumerate zip min max sum abs sorted reversed int str bool list tuple dict set frozenset isinstance"
    " ord repr any all divmod Exception ValueError TypeError KeyError IndexError LookupError ZeroDivisionError"
    " ArithmeticError OverflowError RuntimeError NotImplementedError AttributeError StopIteration".split()
)

ARGUMENTS = {
    "parts": {
        "is_amount": ["steps", "parts"],
        "value_of": ["steps", "parts"],
        "amount_of": ["steps", "value"],
    },
    "sums": {
        "plus": ["steps", "one", "other"],
        "minus": ["steps", "one", "other"],
        "total": ["steps", "amounts"],
        "times": ["steps", "parts", "many"],
    },
    "sharing": {
        "shared": ["steps", "parts", "many"],
    },
    "order": {
        "ahead": ["one", "other"],
        "in_order": ["amounts"],
    },
    "notes": {
        "shown": ["parts"],
        "read": ["steps", "line"],
    },
}


def nodes_of_the_package():
    for path in sorted(FOLDER.glob("*.py")):
        for node in ast.walk(ast.parse(path.read_text(encoding="utf-8"))):
            yield path.name, node


class WhatThePackageDrawsOn(unittest.TestCase):
    def test_only_modules_of_its_own(self):
        for name, node in nodes_of_the_package():
            with self.subTest(file=name, line=getattr(node, "lineno", 0)):
                self.assertNotIsInstance(node, ast.Import)
                if isinstance(node, ast.ImportFrom):
                    self.assertEqual(node.level, 0)
                    self.assertTrue(node.module.startswith("peatrick."))

    def test_no_name_that_reaches_a_clock_chance_or_files(self):
        for name, node in nodes_of_the_package():
            if isinstance(node, ast.Name) and hasattr(builtins, node.id):
                with self.subTest(file=name, line=node.lineno):
                    self.assertIn(node.id, HARMLESS)

    def test_whole_numbers_alone(self):
        for name, node in nodes_of_the_package():
            with self.subTest(file=name, line=getattr(node, "lineno", 0)):
                self.assertNotIsInstance(node, ast.Div)
                if isinstance(node, ast.Constant):
                    self.assertNotIsInstance(node.value, (float, complex))


class Interface(unittest.TestCase):
    def test_names_and_arguments(self):
        for module_name, functions in ARGUMENTS.items():
            module = importlib.import_module("peatrick." + module_name)
            for function_name, arguments in functions.items():
                with self.subTest(module=module_name, function=function_name):
                    signature = inspect.signature(getattr(module, function_name))
                    self.assertEqual(list(signature.parameters), arguments)


if __name__ == "__main__":
    unittest.main()
