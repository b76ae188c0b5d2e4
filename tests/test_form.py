"""The interface of what has landed, and those rules of form that are easily counted."""

import ast
import importlib
import inspect
import re
import unittest
from pathlib import Path

FOLDER = Path(__file__).resolve().parent.parent / "oncetwice"

INTERFACE = {
    "wishes": {
        "Wish": ["rows", "locked", "spare"],
        "is_program": ["wish", "thing"],
        "makes": ["wish", "program"],
        "ran": ["wish", "program", "contents"],
        "standing": ["wish", "program"],
    },
    "orders": {
        "stages": ["wish", "order", "moment"],
        "lack": ["wish", "order", "moment"],
        "fault": ["wish", "order"],
        "is_fault": ["wish", "order", "thing"],
    },
    "making": {
        "made": ["wish", "order"],
        "is_made": ["wish", "order", "thing"],
        "made_ticks": ["wish", "timetable"],
        "is_made_ticks": ["wish", "timetable", "thing"],
    },
    "fewest": {
        "fewest": ["wish"],
        "shortest": ["wish"],
        "count_shortest": ["wish"],
        "cheapest": ["wish", "prices"],
        "ladder": ["wish", "most"],
        "ticks": ["wish", "ports"],
        "timetable": ["wish", "ports"],
        "is_timetable": ["wish", "ports", "thing"],
    },
    "onto": {
        "is_onto": ["wish"],
        "undone": ["wish"],
        "behind": ["wish", "other"],
        "beside": ["wish", "other"],
        "serves_all": ["cells", "spare", "order"],
        "beaten": ["cells", "spare", "order"],
    },
    "moving": {
        "moved": ["sources"],
        "rings": ["sources"],
        "moves": ["sources", "spare"],
    },
    "tables": {
        "Table": ["letters", "cells", "ends"],
        "is_letters": ["table", "thing"],
        "letters_make": ["table", "program"],
        "letters_ran": ["table", "program", "content"],
    },
}
LIBRARY = {"math": ["gcd", "lcm"], "heapq": ["heappush", "heappop"]}
BARRED = re.compile(
    r"\b(type|typing|enum|Enum|Flag|Generic|Protocol|ABC|namedtuple|register|mro|elements|open|input|law"
    r"|eval|exec|compile|id|dir|vars|globals|locals|chr|float|complex|hash|_wall)\b|dataclass|overload|contextmanager")


def sources():
    return sorted(FOLDER.rglob("*.py"))


def without_docstrings(tree):
    for node in ast.walk(tree):
        if isinstance(node, (ast.Module, ast.ClassDef, ast.FunctionDef)) and ast.get_docstring(node) is not None:
            node.body = node.body[1:] or [ast.Pass()]
    return tree


class InterfaceTest(unittest.TestCase):

    def test_each_name_is_defined_in_its_file_with_its_arguments(self):
        for module, names in INTERFACE.items():
            loaded = importlib.import_module(f"oncetwice.{module}")
            for name, arguments in names.items():
                found = getattr(loaded, name)
                self.assertEqual(found.__module__, f"oncetwice.{module}")
                self.assertEqual(list(inspect.signature(found).parameters), arguments, name)


class FormTest(unittest.TestCase):

    def test_the_folder_contains_nothing_but_plain_files(self):
        for path in FOLDER.rglob("*"):
            if "__pycache__" not in path.parts:
                self.assertRegex(path.name, r"^[a-z0-9_]+\.py$")

    def test_lengths_and_signs(self):
        for path in sources():
            text = path.read_text(encoding="utf-8")
            lines = text.split("\n")
            self.assertLessEqual(len(lines), 400, path)
            self.assertLessEqual(max(map(len, lines)), 120, path)
            self.assertRegex(text, r"^[ -~\n]*$", path)

    def test_small_functions(self):
        for path in sources():
            for node in ast.walk(ast.parse(path.read_text())):
                if isinstance(node, ast.FunctionDef):
                    self.assertLessEqual(node.end_lineno - node.lineno + 1, 40, f"{path} {node.name}")
                    self.assertEqual([node.decorator_list, node.args.defaults], [[], []])

    def test_imports(self):
        for path in sources():
            for node in ast.walk(ast.parse(path.read_text())):
                self.assertNotIsInstance(node, ast.Import, path)
                if isinstance(node, ast.ImportFrom):
                    names = [alias.name for alias in node.names]
                    if node.module in LIBRARY:
                        self.assertTrue(all(name in LIBRARY[node.module] for name in names), path)
                    else:
                        self.check_own(node.module, names)

    def check_own(self, module, names):
        self.assertTrue(module.startswith("oncetwice."), module)
        tree = ast.parse((FOLDER / f"{module.split('.')[1]}.py").read_text())
        defined = [node.name for node in tree.body if isinstance(node, (ast.FunctionDef, ast.ClassDef))]
        defined += [node.targets[0].id for node in tree.body if isinstance(node, ast.Assign)]
        for name in names:
            self.assertIn(name, defined, module)

    def test_barred_words_and_signs(self):
        for path in sources():
            tree = without_docstrings(ast.parse(path.read_text()))
            self.assertIsNone(BARRED.search(ast.unparse(tree)), path)
            for node in ast.walk(tree):
                self.assertNotIsInstance(node, (ast.Div, ast.Global, ast.AsyncFunctionDef, ast.Set), path)
                if isinstance(node, ast.Constant):
                    self.assertNotIsInstance(node.value, (float, complex), path)

    def test_no_two_files_import_from_each_other(self):
        reached = {path.stem: self.imported(path) for path in sources()}
        for _ in reached:
            for name in reached:
                reached[name] = sorted(set(reached[name]).union(*[reached[other] for other in reached[name]]))
        for name, others in reached.items():
            self.assertNotIn(name, others)

    def imported(self, path):
        nodes = ast.walk(ast.parse(path.read_text()))
        modules = [node.module for node in nodes if isinstance(node, ast.ImportFrom)]
        return [module.split(".")[1] for module in modules if module.startswith("oncetwice.")]
