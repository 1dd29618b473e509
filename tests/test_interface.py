"""The interface: each name in its file, with its arguments; and what the general rules [1] and [2] bar."""

import ast
import importlib
import inspect
import unittest
from pathlib import Path

PACKAGE = Path(__file__).resolve().parent.parent / "plandays"

# For each file: the classes with the arguments of their calls and methods, and the functions.
CLASSES = {
    "errors": {
        name: {"__init__": ["value"]}
        for name in (
            "PlanError", "NoTask", "InvalidName", "DoubleName", "InvalidRule", "UnknownTask", "SameTask",
            "UnlikeTasks", "InvalidNumber", "InvalidPlan", "NoPlan", "Quarrel", "NothingToUndo", "Unreadable",
        )
    },
    "books": {
        "Book": {
            "__init__": ["tasks", "rules"], "keeps": ["n", "plan"], "with_rules": ["rules"], "without": ["index"],
            "beside": ["other"], "then": ["other"], "turned": [], "exchanged": [], "__contains__": None,
            "__and__": None, "__len__": None, "__eq__": None,
        },
    },
    "counted": {
        "Counted": {
            "__init__": ["firsts", "poly"], "of": ["book"], "__getitem__": None, "__add__": None, "__sub__": None,
            "__mul__": None, "__rshift__": None, "__eq__": None,
        },
    },
    "calendars": {
        "Calendar": {
            "__init__": ["tasks"], "__call__": ["rule"], "total": ["n"], "say_all": ["rules"], "undo": [],
            "__len__": None, "__eq__": None,
        },
        "SureCalendar": {"__init__": ["tasks"], "__call__": ["rule"], "say_all": ["rules"], "__eq__": None},
    },
}
PROPERTIES = {
    "books": {"Book": ["tasks", "rules"]}, "counted": {"Counted": ["begin", "firsts", "poly"]},
    "calendars": {"Calendar": ["book"]},
}
CLASS_METHODS = {"counted": {"Counted": ["of"]}}
FUNCTIONS = {
    "patterns": {
        "patterns": ["book"], "pattern_of": ["book", "n", "plan"], "plans_with": ["pattern", "n"],
        "judge_patterns": ["book", "told"],
    },
    "counts": {
        "count": ["book", "n"], "polynomial": ["book"], "least_days": ["book"], "value_at": ["poly", "n"],
        "product": ["one", "other"], "same_number": ["one", "other"],
    },
    "means": {
        "day_sums": ["book", "task"], "mean": ["book", "n", "task"], "on_day": ["book", "n", "task", "day"],
        "used": ["book"],
    },
    "shares": {name: ["book", "a", "b"] for name in ("share", "limit", "majority")},
    "logic": {
        "follows": ["book", "rule"], "counter": ["book", "rule"], "least_lots": ["book", "rule"],
        "quarrels": ["book"], "first_unlike": ["one", "other"], "alike": ["one", "other"],
    },
    "learn": {
        "fitting": ["tasks", "offered", "told"], "parting_days": ["tasks", "offered", "told"],
        "next_numbers": ["tasks", "offered", "told"], "fitting_all": ["tasks", "offered", "counted"],
    },
    "numbers": {"plan_at": ["book", "n", "k"], "number_of": ["book", "n", "plan"], "plans": ["book", "n"]},
    "texts": {"show_book": ["book"], "show_pattern": ["pattern"], "show_polynomial": ["poly"]},
    "readings": {name: ["text"] for name in ("read_book", "read_pattern", "read_polynomial")},
}
LIBRARY = {"heapq", "math", "itertools", "collections"}


def arguments(function):
    return [name for name in inspect.signature(function).parameters if name != "self"]


def module(name):
    return importlib.import_module("plandays." + name)


class Interface(unittest.TestCase):
    def test_classes_stand_in_their_files(self):
        for name, classes in CLASSES.items():
            for title in classes:
                self.assertEqual(getattr(module(name), title).__module__, "plandays." + name)

    def test_methods_and_their_arguments(self):
        for name, classes in CLASSES.items():
            for title, methods in classes.items():
                one = getattr(module(name), title)
                for method, wanted in methods.items():
                    if method != "__init__":
                        self.assertIn(method, vars(one), title)
                    if wanted is not None:
                        self.assertEqual(arguments(getattr(one, method)), wanted, (title, method))

    def assert_decorated(self, listed, kind):
        for name, classes in listed.items():
            for title, methods in classes.items():
                for method in methods:
                    self.assertIsInstance(vars(getattr(module(name), title))[method], kind, (title, method))

    def test_properties_and_class_methods(self):
        self.assert_decorated(PROPERTIES, property)
        self.assert_decorated(CLASS_METHODS, classmethod)

    def test_functions_and_their_arguments(self):
        for name, functions in FUNCTIONS.items():
            for title, wanted in functions.items():
                one = getattr(module(name), title)
                self.assertTrue(inspect.isfunction(one))
                self.assertEqual(one.__module__, "plandays." + name)
                self.assertEqual(arguments(one), wanted, title)


class NoClockNoRandomNumbersNoFiles(unittest.TestCase):
    def test_imports_come_from_the_package_and_four_plain_modules(self):
        for path in sorted(PACKAGE.rglob("*.py")):
            for node in ast.walk(ast.parse(path.read_text())):
                self.assertNotIsInstance(node, ast.Import, path)
                if isinstance(node, ast.ImportFrom):
                    self.assertTrue(node.module.startswith("plandays.") or node.module in LIBRARY, (path, node.module))

    def test_nothing_is_called_that_reads_or_writes(self):
        barred = {"open", "input", "print", "eval", "exec", "compile", "__import__", "globals", "vars", "id", "hash"}
        for path in sorted(PACKAGE.rglob("*.py")):
            for node in ast.walk(ast.parse(path.read_text())):
                if isinstance(node, ast.Name):
                    self.assertNotIn(node.id, barred, path)


if __name__ == "__main__":
    unittest.main()
