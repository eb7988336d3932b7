"""LANGUAGE.md: the rules that can be read off the code, and where the names of the interface stand."""

import ast
import importlib
import inspect
import pathlib
import re
import unittest

from tests.language import PACKAGE, changes_by_operators, complaints

FOLDER = pathlib.Path(__file__).resolve().parent.parent / PACKAGE
INTERFACE = {
    "errors": ["SparkError", "BadWidth", "BadPairs", "BadColumns", "BadColumn", "OtherFrame", "TooShort", "NoSeat",
               "BadSeats", "BadCell", "BadTable", "NoColumns", "BadTimes", "NoWeb", "OtherShape", "ClosedWeb",
               "BadPrices", "BadSize", "NoForecast", "CannotJoin", "IsIn", "NotIn", "BadNeed", "Nothing", "BadLine"],
    "frames": ["Frame", "is_cell", "is_column", "Stretch", "mirrored", "Web"],
    "rounds": ["rounds", "moment", "won", "all_won"],
    "holdouts": ["is_holdout", "is_order", "holdout", "is_lean", "lean_order"],
    "tables": ["sides", "Table", "column_rows", "table_of"],
    "powers": ["powers", "is_powers", "power", "Family", "wins", "wins_at"],
    "far": ["is_in", "count", "parting"],
    "views": ["view", "alike", "surrounding", "parts"],
    "fronts": ["first_front", "onward", "front_of", "is_front"],
    "fewest": ["fewest", "is_prices", "floor", "holds_floor"],
    "rates": ["is_family_prices", "fronts_of", "behind_body", "least", "needs", "rate", "heights", "is_heights"],
    "trips": ["trip", "is_trip"],
    "forecasts": ["is_window", "forecast", "far_least"],
    "guards": ["guard", "guard_floor", "holds_guard_floor"],
    "fields": ["Field", "replayed"],
    "papers": ["format_web", "format_family", "read_web", "read_family"],
}
METHODS = {
    "Frame": {"__init__": "(self, width, *, inner=(), outer=())", "__eq__": "(self, other)",
              "beside": "(self, row)", "onward": "(self, row)", "back": "(self, row)"},
    "Stretch": {"__init__": "(self, frame, columns)", "__eq__": "(self, other)", "__len__": "(self)",
                "__add__": "(self, other)", "__mul__": "(self, other)"},
    "Web": {"__init__": "(self, stretch, *, closed=False)", "__eq__": "(self, other)", "seats": "(self)",
            "is_seat": "(self, value)", "are_seats": "(self, value)", "cell": "(self, seat)",
            "neighbours": "(self, seat)", "changed": "(self, seat, cell)", "with_starters": "(self, seats)",
            "with_bars": "(self, seats)"},
    "Table": {"__init__": "(self, width, entries)", "__getitem__": "(self, at)", "__eq__": "(self, other)",
              "__add__": "(self, other)", "entries": "(self)", "mirrored": "(self)", "ring": "(self)"},
    "Family": {"__init__": "(self, body, *, head=None, tail=None, closed=False)", "__eq__": "(self, other)",
               "has": "(self, size)", "length": "(self, size)", "at": "(self, size)"},
    "Field": {"__init__": "(self, web)", "can_join": "(self)", "enter": "(self, seat)", "put": "(self, seat)",
              "leave": "(self, seat)", "set_need": "(self, seat, need)", "step": "(self)", "undo": "(self)",
              "fork": "(self)", "outcome": "(self)", "never": "(self)"},
}
PROPERTIES = {"Stretch": ["columns"], "Field": ["web", "inside", "history"]}
SIGNATURES = {
    "is_cell": "(value)", "is_column": "(frame, value)", "mirrored": "(stretch)", "rounds": "(web)",
    "moment": "(web, seat)", "won": "(web)", "all_won": "(web)", "is_holdout": "(web, value)",
    "is_order": "(web, value)", "holdout": "(web)", "is_lean": "(web, seat, value)", "lean_order": "(web, seat)",
    "sides": "(width)", "column_rows": "(frame, column, left, right)", "table_of": "(stretch)",
    "powers": "(stretch)", "is_powers": "(stretch, start, period, tables)", "power": "(stretch, times)",
    "wins": "(family)", "wins_at": "(family, size)", "is_in": "(family, size, column, row)",
    "count": "(family, size)", "parting": "(one, other)", "view": "(stretch)", "alike": "(one, other)",
    "surrounding": "(one, other)", "parts": "(one, other, left, right)",
    "first_front": "(width)", "onward": "(frame, front, column)", "front_of": "(stretch)",
    "is_front": "(width, value)", "fewest": "(web, prices)", "is_prices": "(web, value)", "floor": "(web, prices)",
    "holds_floor": "(web, prices, amount, value)", "is_family_prices": "(family, value)",
    "fronts_of": "(family, prices)", "behind_body": "(family, prices, front)", "least": "(family, prices, size)",
    "needs": "(family, prices, many)", "rate": "(family, prices)", "heights": "(family, prices)",
    "is_heights": "(family, prices, amount, bodies, value)", "trip": "(family, prices)",
    "is_trip": "(family, prices, amount, bodies, walk, start, end)", "is_window": "(family, prices, start, period)",
    "forecast": "(family, prices, *, within=24)", "far_least": "(family, prices, size, *, within=24)",
    "guard": "(web, prices, watched)", "guard_floor": "(web, prices, watched)",
    "holds_guard_floor": "(web, prices, watched, amount, value)", "replayed": "(web, events)",
    "format_web": "(web)", "format_family": "(family)", "read_web": "(text)", "read_family": "(text)",
}
WRONG = [
    "import sys", "from os import path", "from sparkrows import frames", "from .frames import Frame",
    "from sparkrows.frames import *", "from sparkrows.frames import Frame as F", "X = len([])", "X, Y = 1, 2",
    "X = 1\nX = 2", "print(1)", "def f(x=[]):\n    return x", "def f(x):\n    return x / 2",
    "def f(x):\n    return 0.5", "def f(x):\n    yield x", "def f(x):\n    return any(k for k in x)",
    "def f(x):\n    try:\n        return x[0]\n    except IndexError:\n        return 0",
    "def f(x):\n    return hash(x)", "def f(id):\n    return id", "def f(x):\n    for next in x:\n        pass",
    "def f(x):\n    x.sort()", "def f(x):\n    return set(x)", "def f(x):\n    y = {1, x}",
    "def f(x):\n    return x is f", "def f(x):\n    raise x", "def f(x):\n    return '%s'",
    "def f(x):\n    return 'an enum'", "def f(x):\n    return x.__dict__", "def f(x):\n    global Y",
    "@f\ndef g(x):\n    return x", "class A(B, C):\n    pass", "class A:\n    n = 1",
    "class A:\n    def __hash__(self):\n        return 1",
    "class A:\n    def n(self):\n        self.n = 1", "class A:\n    def n(self):\n        self.items = 1",
    "def f(x):\n    class A:\n        pass", "X = '" + "a" * 120 + "'", "# \u00e4", "def f(x):\n\treturn x",
    "def f(x):\n" + "    x = 1\n" * 41, "# a\n" * 401, "from sparkrows.a import b\ndef f(b):\n    return b",
    "from math import lcm", "from math import gcd as g", "from math import gcd\n\ndef f(gcd):\n    return gcd",
    "from math import gcd\n\ndef f(x):\n    return max(x, key=gcd)", "from heapq import heappush", "import math",
    "def f(x):\n    return [*range(x)]", "def f(x):\n    y = x.items()", "def f(x):\n    return zip(x, x)",
    "class A:\n    def __getitem__(self, at):\n        return at", "# Meta", "# (type)",
    "class A:\n    def __iter__(self):\n        return iter(self.rows)",
]
RIGHT = [
    "from math import gcd\n\ndef f(a, b):\n    return gcd(a, b)", "def f(x):\n    return 'open'",
    "from sparkrows.a import b\n\ndef f(x):\n    return b(x, 2)", "def f(x):\n    return [k for k in range(x)]",
    "def f(x):\n    return list(range(x)) + sorted(zip(x, enumerate(x))) + [*x]",
    "class A:\n    def __getitem__(self, at):\n        return at\n    def __iter__(self):\n"
    "        raise TypeError('none')",
]
CHANGING = [
    "    def __add__(self, other):\n        self.n = other",
    "    def __add__(self, other):\n        other[0] = 1",
    "    def __getitem__(self, at):\n        at.append(1)",
    "    def __eq__(self, other):\n        del other[0]",
    "    def __len__(self):\n        return f(self)\n\ndef f(x):\n    x.rows.pop()",
    "    def __len__(self):\n        return self.told()\n    def told(self):\n        self.n = 1",
    "    @property\n    def n(self):\n        self.n = 1",
    "    def __add__(self, other):\n        rows = self.rows\n        rows.append(1)",
    "    def __add__(self, other):\n        rows = []\n        rows = other\n        rows.append(1)",
    "    def __add__(self, other):\n        rows = 1\n        rows += other",
]
CHANGING_NOTHING = [
    "    def __init__(self, n):\n        self.n = n",
    "    def told(self):\n        self.n = 1",
    "    def __add__(self, other):\n        rows = []\n        rows.append(1)\n        rows[0] = other",
    "    def __add__(self, other):\n        rows = dict(other)\n        rows[1] = 2",
    "    def __len__(self):\n        return f(self.n)\n\ndef f(x):\n    return x",
]


def files():
    return sorted(FOLDER.rglob("*.py"))


def trees():
    return {path.stem: ast.parse(path.read_text(encoding="utf-8")) for path in files()}


def all_methods():
    return [item.name for tree in trees().values() for node in ast.walk(tree) if isinstance(node, ast.ClassDef)
            for item in node.body if isinstance(item, ast.FunctionDef)]


def imports(tree):
    """The modules of the package that a file imports from, each with the names."""
    return [(node.module.split(".")[-1], [name.name for name in node.names])
            for node in tree.body if isinstance(node, ast.ImportFrom) and node.module.startswith(PACKAGE)]


class LanguageTest(unittest.TestCase):

    def test_no_complaints(self):
        methods = all_methods()
        self.assertTrue(files())
        for path in files():
            self.assertEqual(complaints(path.read_text(encoding="utf-8"), methods), [], path.name)

    def test_what_is_wrong_is_seen(self):
        for text in WRONG:
            self.assertNotEqual(complaints(text), [], text)

    def test_what_is_right_is_seen(self):
        for text in RIGHT:
            self.assertEqual(complaints(text), [], text)

    def test_operators_change_nothing(self):
        self.assertEqual(changes_by_operators(list(trees().values())), [])

    def test_changes_by_operators_are_seen(self):
        for text in CHANGING:
            self.assertNotEqual(changes_by_operators([ast.parse("class A:\n" + text)]), [], text)
        for text in CHANGING_NOTHING:
            self.assertEqual(changes_by_operators([ast.parse("class A:\n" + text)]), [], text)

    def test_nothing_but_python_files_with_plain_names(self):
        for path in FOLDER.rglob("*"):
            if "__pycache__" in path.parts:
                continue
            self.assertRegex(path.name, re.compile(r"^(__init__|[a-z][a-z0-9_]*)\.py$"))
            self.assertNotRegex(path.name, re.compile(r"^(test|law_|site|conftest)"))

    def test_names_are_imported_from_where_they_are_defined(self):
        known = trees()
        for name, tree in known.items():
            for module, names in imports(tree):
                defined = [getattr(node, "name", None) for node in known[module].body]
                defined += [node.targets[0].id for node in known[module].body if isinstance(node, ast.Assign)]
                self.assertEqual([some for some in names if some not in defined], [], name)

    def test_no_two_files_import_each_other(self):
        left = {name: [module for module, _ in imports(tree)] for name, tree in trees().items()}
        while left:
            free = [name for name in left if not [module for module in left[name] if module in left]]
            self.assertTrue(free, f"a circle among {sorted(left)}")
            for name in free:
                del left[name]

    def test_a_class_has_no_name_of_a_method_as_property_elsewhere(self):
        decorated = [node.name for tree in trees().values() for node in ast.walk(tree)
                     if isinstance(node, ast.FunctionDef) and node.decorator_list]
        plain = [node.name for tree in trees().values() for node in ast.walk(tree)
                 if isinstance(node, ast.FunctionDef) and not node.decorator_list]
        stored = [node.attr for tree in trees().values() for node in ast.walk(tree)
                  if isinstance(node, ast.Attribute) and isinstance(node.ctx, ast.Store)]
        self.assertEqual([name for name in decorated if name in plain or name in stored], [])


class InterfaceTest(unittest.TestCase):

    def test_each_name_is_defined_in_its_file(self):
        for name, names in INTERFACE.items():
            module = importlib.import_module(f"{PACKAGE}.{name}")
            defined = [node.name for node in trees()[name].body if isinstance(node, (ast.FunctionDef, ast.ClassDef))]
            for some in names:
                self.assertIn(some, defined)
                self.assertEqual(getattr(module, some).__module__, module.__name__)

    def test_each_function_has_its_arguments(self):
        for name, names in INTERFACE.items():
            module = importlib.import_module(f"{PACKAGE}.{name}")
            for some in [some for some in names if some in SIGNATURES]:
                self.assertEqual(str(inspect.signature(getattr(module, some))), SIGNATURES[some], some)

    def test_each_method_stands_in_its_class(self):
        for name, methods in METHODS.items():
            home = [module for module in INTERFACE if name in INTERFACE[module]][0]
            body = vars(getattr(importlib.import_module(f"{PACKAGE}.{home}"), name))
            for method, arguments in methods.items():
                self.assertIn(method, body)
                self.assertEqual(str(inspect.signature(body[method])), arguments, method)
        for name, properties in PROPERTIES.items():
            home = [module for module in INTERFACE if name in INTERFACE[module]][0]
            body = vars(getattr(importlib.import_module(f"{PACKAGE}.{home}"), name))
            for some in properties:
                self.assertIsInstance(body[some], property)

    def test_all_of_the_document(self):
        functions = [name for names in INTERFACE.values() for name in names if name[0].islower()]
        self.assertEqual(sorted(functions), sorted(SIGNATURES))


if __name__ == "__main__":
    unittest.main()
