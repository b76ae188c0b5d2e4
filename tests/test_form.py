"""The interface of what has landed, and those rules of form that are easily counted."""

import ast
import builtins
import importlib
import inspect
import re
import unittest
from pathlib import Path

FOLDER = Path(__file__).resolve().parent.parent / "oncetwice"

INTERFACE = {
    "wishes": {
        "Wish": ["rows", "locked", "spare"],
        "is_program": ["wish", "thing"],
        "makes": ["wish", "program"],
        "ran": ["wish", "program", "contents"],
        "standing": ["wish", "program"],
    },
    "orders": {
        "stages": ["wish", "order", "moment"],
        "lack": ["wish", "order", "moment"],
        "fault": ["wish", "order"],
        "is_fault": ["wish", "order", "thing"],
    },
    "making": {
        "made": ["wish", "order"],
        "is_made": ["wish", "order", "thing"],
        "made_ticks": ["wish", "timetable"],
        "is_made_ticks": ["wish", "timetable", "thing"],
    },
    "fewest": {
        "fewest": ["wish"],
        "shortest": ["wish"],
        "count_shortest": ["wish"],
        "cheapest": ["wish", "prices"],
        "ladder": ["wish", "most"],
        "ticks": ["wish", "ports"],
        "timetable": ["wish", "ports"],
        "is_timetable": ["wish", "ports", "thing"],
    },
    "onto": {
        "is_onto": ["wish"],
        "undone": ["wish"],
        "behind": ["wish", "other"],
        "beside": ["wish", "other"],
        "serves_all": ["cells", "spare", "order"],
        "beaten": ["cells", "spare", "order"],
    },
    "moving": {
        "moved": ["sources"],
        "rings": ["sources"],
        "moves": ["sources", "spare"],
    },
    "tables": {
        "Table": ["letters", "cells", "ends"],
        "is_letters": ["table", "thing"],
        "letters_make": ["table", "program"],
        "letters_ran": ["table", "program", "content"],
    },
    "letters": {
        "collision": ["table", "order"],
        "one_pass": ["table", "order"],
        "there_and_back": ["table", "order"],
        "fewest_letters": ["table"],
    },
    "codes": {
        "Code": ["cells", "outs", "rows"],
        "plain": ["code", "begins", "most"],
        "live": ["code"],
    },
    "compiling": {
        "wish_at": ["code", "row", "spare"],
        "compiled": ["code", "spare"],
        "is_compiled": ["code", "spare", "thing"],
        "cost": ["code", "spare"],
        "ran_compiled": ["code", "spare", "programs", "begins", "most"],
    },
    "runners": {
        "Runner": ["code", "spare", "programs", "begins"],
    },
    "benches": {
        "Bench": ["wish"],
    },
    "texts": {
        "wish_text": ["wish"],
        "program_text": ["program"],
        "read_wish": ["text"],
        "read_program": ["wish", "text"],
    },
    "sources": {
        "translated": ["text"],
        "source": ["code"],
    },
    "desks": {
        "Desk": [],
    },
}
METHODS_OF = {
    "runners.Runner": {
        "word": [], "row": [], "moment": [], "steps": [], "go": ["most"], "contents": [], "said": [],
        "remembered": [], "breaks": [], "step": [], "back": [], "set_break": ["row"], "clear_break": ["row"],
        "copy": [], "was": ["cell"], "will": ["cell"],
    },
    "benches.Bench": {
        "wish": [], "order": [], "give": ["cell", "row"], "lock": ["cell"], "unlock": ["cell"], "spares": ["many"],
        "keep": ["order"], "settle": [], "undo": [], "redo": [], "fault": [], "deeds": [], "copy": [],
        "trying": ["action"],
    },
    "desks.Desk": {"tell": ["line"], "undoable": []},
}
LIBRARY = {"math": ["gcd", "lcm"], "heapq": ["heappush", "heappop"]}
# These words stand nowhere but in comments and docstrings, and not even within longer words where told.
BARRED_WORDS = re.compile(
    r"\b(type|typing|typing_extensions|enum|Enum|IntEnum|StrEnum|Flag|IntFlag|Generic|Protocol|ABC|ABCMeta|namedtuple"
    r"|NamedTuple|TypedDict|TYPE_CHECKING|abstractmethod|_wall|_WallAttr)\b|dataclass|overload|contextmanager")
BARRED_NAMES = re.compile(
    r"register|mro|elements|open|input|law|version_info|with_traceback|add_note|(f|tb|co)_[a-z]+|attrgetter|breakpoint"
    r"|builtins|compile|copyright|credits|delattr|dir|eval|exec|exit|gc|getattr|globals|hasattr|help|id|importlib"
    r"|license|locals|methodcaller|os|quit|setattr|vars|sys|__name__|chr|float|complex|hash|print|frozenset|object"
    r"|_wall.*|_pe_.*|_dcw_.*|_enum_.*|_cm_.*|_twin_re_.*|_lay_.*|_law_.*|_stub_.*|_sre.*")
# The methods of values of Python's own that may be called.
METHODS = {
    "append", "clear", "copy", "count", "endswith", "extend", "find", "get", "index", "insert", "isalnum", "isalpha",
    "isdigit", "islower", "isspace", "isupper", "items", "join", "keys", "ljust", "lower", "lstrip", "partition", "pop",
    "remove", "replace", "reverse", "rfind", "rjust", "rpartition", "rsplit", "rstrip", "setdefault", "split",
    "splitlines", "startswith", "strip", "update", "upper", "values", "zfill", "bit_length", "add", "discard",
}
# The names of Python's own that may be read.
BUILTINS = {
    "len", "range", "enumerate", "zip", "min", "max", "sum", "abs", "sorted", "reversed", "int", "str", "bool", "list",
    "tuple", "dict", "set", "isinstance", "any", "all", "super", "ValueError",
}


def sources():
    return sorted(FOLDER.rglob("*.py"))


def without_docstrings(tree):
    for node in ast.walk(tree):
        if isinstance(node, (ast.Module, ast.ClassDef, ast.FunctionDef)) and ast.get_docstring(node) is not None:
            node.body = node.body[1:] or [ast.Pass()]
    return tree


def bound_by(node):
    """The names that a statement at module level binds."""
    if isinstance(node, ast.ImportFrom):
        return [alias.asname or alias.name for alias in node.names]
    if isinstance(node, (ast.FunctionDef, ast.ClassDef)):
        return [node.name]
    return [target.id for target in getattr(node, "targets", [])]


def locals_of(function):
    """The names of the parameters and variables of a function."""
    found = [argument.arg for argument in ast.walk(function) if isinstance(argument, ast.arg)]
    found += [node.id for node in ast.walk(function) if isinstance(node, ast.Name) and isinstance(node.ctx, ast.Store)]
    return found


def names_in(tree):
    """All names, attributes and keywords of a file."""
    for node in ast.walk(tree):
        for field in ("id", "attr", "arg", "name"):
            value = getattr(node, field, None)
            if isinstance(value, str):
                yield value


class InterfaceTest(unittest.TestCase):

    def test_each_name_is_defined_in_its_file_with_its_arguments(self):
        for module, names in INTERFACE.items():
            loaded = importlib.import_module(f"oncetwice.{module}")
            for name, arguments in names.items():
                found = getattr(loaded, name)
                self.assertEqual(found.__module__, f"oncetwice.{module}")
                self.assertEqual(list(inspect.signature(found).parameters), arguments, name)


    def test_each_method_stands_in_its_class(self):
        for place, methods in METHODS_OF.items():
            module, name = place.split(".")
            held = vars(getattr(importlib.import_module(f"oncetwice.{module}"), name))
            for method, arguments in methods.items():
                self.assertEqual(list(inspect.signature(held[method]).parameters), ["self", *arguments], method)


class FormTest(unittest.TestCase):

    def test_the_folder_contains_nothing_but_plain_files(self):
        for path in FOLDER.rglob("*"):
            if "__pycache__" not in path.parts:
                self.assertRegex(path.name, r"^[a-z0-9_]+\.py$")

    def test_lengths_and_signs(self):
        for path in sources():
            text = path.read_text(encoding="utf-8")
            lines = text.split("\n")
            self.assertLessEqual(len(lines), 400, path)
            self.assertLessEqual(max(map(len, lines)), 120, path)
            self.assertRegex(text, r"^[ -~\n]*$", path)

    def test_small_functions(self):
        for path in sources():
            for node in ast.walk(ast.parse(path.read_text())):
                if isinstance(node, ast.FunctionDef):
                    self.assertLessEqual(node.end_lineno - node.lineno + 1, 40, f"{path} {node.name}")
                    self.assertEqual([node.decorator_list, node.args.defaults], [[], []])

    def test_imports(self):
        for path in sources():
            for node in ast.walk(ast.parse(path.read_text())):
                self.assertNotIsInstance(node, ast.Import, path)
                if isinstance(node, ast.ImportFrom):
                    names = [alias.name for alias in node.names]
                    if node.module in LIBRARY:
                        self.assertTrue(all(name in LIBRARY[node.module] for name in names), path)
                    else:
                        self.check_own(node.module, names)

    def check_own(self, module, names):
        self.assertTrue(module.startswith("oncetwice."), module)
        tree = ast.parse((FOLDER / f"{module.split('.')[1]}.py").read_text())
        defined = [node.name for node in tree.body if isinstance(node, (ast.FunctionDef, ast.ClassDef))]
        defined += [node.targets[0].id for node in tree.body if isinstance(node, ast.Assign)]
        for name in names:
            self.assertIn(name, defined, module)

    def test_barred_words_and_signs(self):
        for path in sources():
            tree = without_docstrings(ast.parse(path.read_text()))
            self.assertIsNone(BARRED_WORDS.search(ast.unparse(tree)), path)
            for node in ast.walk(tree):
                self.assertNotIsInstance(
                    node, (ast.Div, ast.Global, ast.AsyncFunctionDef, ast.Set, ast.GeneratorExp, ast.Lambda), path)
                if isinstance(node, ast.Constant):
                    self.assertNotIsInstance(node.value, (float, complex), path)
                    if isinstance(node.value, str):
                        self.assertNotRegex(node.value, r"%|^__|\._$", path)

    def test_barred_names(self):
        for path in sources():
            for name in names_in(ast.parse(path.read_text())):
                self.assertIsNone(BARRED_NAMES.fullmatch(name), f"{path} {name}")

    def test_no_name_has_two_meanings(self):
        for path in sources():
            tree = ast.parse(path.read_text())
            outer = [name for node in tree.body for name in bound_by(node)]
            self.assertEqual(len(outer), len(set(outer)), path)
            for name in outer:
                self.assertFalse(hasattr(builtins, name), f"{path} {name}")
            for node in ast.walk(tree):
                if isinstance(node, ast.FunctionDef):
                    for name in locals_of(node):
                        self.assertNotIn(name, outer, f"{path} {node.name}")
                        self.assertFalse(hasattr(builtins, name), f"{path} {node.name} {name}")

    def test_only_these_names_of_pythons_own_are_read(self):
        for path in sources():
            tree = ast.parse(path.read_text())
            known = {name for node in tree.body for name in bound_by(node)} | BUILTINS
            for node in ast.walk(tree):
                if isinstance(node, ast.FunctionDef):
                    inner = known.union(locals_of(node))
                    for part in ast.walk(node):
                        if isinstance(part, ast.Name):
                            self.assertIn(part.id, inner, f"{path} {node.name}")

    def test_methods_and_attributes(self):
        methods, attributes = {}, {}
        for path in sources():
            for node in ast.parse(path.read_text()).body:
                if isinstance(node, ast.ClassDef):
                    methods[node.name] = [part.name for part in node.body if isinstance(part, ast.FunctionDef)]
                    attributes[node.name] = [
                        part.attr for part in ast.walk(node)
                        if isinstance(part, ast.Attribute) and isinstance(part.ctx, ast.Store)]
        for name in methods:
            self.assertEqual(set(methods[name]) & set(attributes[name]), set(), name)
        known = {part for parts in [*methods.values(), *attributes.values()] for part in parts}
        for path in sources():
            for node in ast.walk(ast.parse(path.read_text())):
                if isinstance(node, ast.Attribute):
                    self.assertIn(node.attr, known | METHODS, path)

    def test_each_import_is_used(self):
        for path in sources():
            tree = ast.parse(path.read_text())
            read = {node.id for node in ast.walk(tree) if isinstance(node, ast.Name)}
            for node in tree.body:
                if isinstance(node, ast.ImportFrom):
                    for alias in node.names:
                        self.assertIn(alias.name, read, path)

    def test_no_two_files_import_from_each_other(self):
        reached = {path.stem: self.imported(path) for path in sources()}
        for _ in reached:
            for name in reached:
                reached[name] = sorted(set(reached[name]).union(*[reached[other] for other in reached[name]]))
        for name, others in reached.items():
            self.assertNotIn(name, others)

    def imported(self, path):
        nodes = ast.walk(ast.parse(path.read_text()))
        modules = [node.module for node in nodes if isinstance(node, ast.ImportFrom)]
        return [module.split(".")[1] for module in modules if module.startswith("oncetwice.")]
