"""The package's files keep to the small part of Python that they are to be written in.

That part has no clock, chance, file or network in it: so what a file draws in and which names of
Python's own it uses tell that point 1 holds, whatever is handed in.
"""

import ast
import re
import unittest
from pathlib import Path

PACKAGE = Path(__file__).resolve().parent.parent / "weirgauge"

OWN_NAMES = set(
    """len range enumerate zip min max sum abs sorted reversed int str bool list tuple dict set frozenset
    isinstance ord repr any all divmod Exception ValueError TypeError KeyError IndexError LookupError
    ZeroDivisionError ArithmeticError OverflowError RuntimeError NotImplementedError AttributeError
    StopIteration""".split())

OWN_METHODS = set(
    """append clear copy count endswith extend find get index insert isalnum isalpha isdigit islower isspace
    isupper items join keys ljust lower lstrip partition pop remove replace reverse rfind rjust rpartition
    rsplit rstrip setdefault split splitlines startswith strip update upper values zfill bit_length""".split())

SHUNNED_WORDS = re.compile(
    r"\b(type|typing|typing_extensions|enum|Enum|IntEnum|StrEnum|Flag|IntFlag|Generic|Protocol|ABC|ABCMeta"
    r"|namedtuple|NamedTuple|TypedDict|TYPE_CHECKING|abstractmethod)\b|dataclass|overload|contextmanager")

SHUNNED_FORMS = (
    ast.With, ast.Match, ast.Delete, ast.Global, ast.Nonlocal, ast.Assert, ast.Yield, ast.YieldFrom,
    ast.AsyncFunctionDef, ast.AsyncFor, ast.AsyncWith, ast.Await, ast.Import, ast.SetComp, ast.DictComp,
    ast.GeneratorExp, ast.NamedExpr, ast.Starred, ast.Div, ast.MatMult, ast.AnnAssign)


def bound_names(tree):
    names = set()
    for node in ast.walk(tree):
        if isinstance(node, (ast.FunctionDef, ast.ClassDef)):
            names.add(node.name)
        elif isinstance(node, ast.arg):
            names.add(node.arg)
        elif isinstance(node, ast.ImportFrom):
            names.update(alias.asname or alias.name for alias in node.names)
        elif isinstance(node, ast.Name) and isinstance(node.ctx, ast.Store):
            names.add(node.id)
        elif isinstance(node, ast.ExceptHandler) and node.name:
            names.add(node.name)
    return names


def import_faults(tree):
    faults = []
    for node in ast.walk(tree):
        if isinstance(node, ast.ImportFrom):
            if node.level or not node.module.startswith("weirgauge."):
                faults.append((node.lineno, "draws in", node.module))
            faults.extend((node.lineno, "draws in", "*") for alias in node.names if alias.name == "*")
    return faults


def name_faults(tree):
    bound = bound_names(tree)
    faults = []
    for node in ast.walk(tree):
        if isinstance(node, ast.Name) and node.id not in bound | OWN_NAMES:
            faults.append((node.lineno, "name", node.id))
        if isinstance(node, ast.Attribute) and isinstance(node.ctx, ast.Load):
            if node.attr.startswith("__") and node.attr != "__init__":
                faults.append((node.lineno, "attribute", node.attr))
    for name in bound:
        if name.startswith("_") and name not in ("__init__", "__eq__", "__repr__", "__str__", "__len__"):
            faults.append((0, "name with an underscore ahead", name))
        if name in OWN_NAMES:
            faults.append((0, "another meaning for", name))
    return faults


def methods_of_the_package():
    """A class's methods may be called from every file that draws the class in."""
    return {method.name
            for path in PACKAGE.glob("*.py")
            for node in ast.walk(ast.parse(path.read_bytes())) if isinstance(node, ast.ClassDef)
            for method in node.body if isinstance(method, ast.FunctionDef)}


def method_faults(tree):
    known = methods_of_the_package() | OWN_METHODS
    return [(node.lineno, "method", node.func.attr) for node in ast.walk(tree)
            if isinstance(node, ast.Call) and isinstance(node.func, ast.Attribute)
            and node.func.attr not in known]


def form_faults(tree):
    faults = []
    for node in ast.walk(tree):
        if isinstance(node, SHUNNED_FORMS):
            faults.append((getattr(node, "lineno", 0), "form", type(node).__name__))
        if isinstance(node, ast.Constant) and isinstance(node.value, (float, complex, bytes)):
            faults.append((node.lineno, "value", node.value))
        if isinstance(node, (ast.FunctionDef, ast.ClassDef)) and node.decorator_list:
            faults.append((node.lineno, "decorator", node.name))
        if isinstance(node, (ast.For, ast.While)) and node.orelse:
            faults.append((node.lineno, "form", "else behind a loop"))
        if isinstance(node, ast.Try) and node.finalbody:
            faults.append((node.lineno, "form", "finally"))
        if isinstance(node, ast.FunctionDef) and node.end_lineno - node.lineno + 1 > 40:
            faults.append((node.lineno, "more than 40 lines", node.name))
    return faults


def text_faults(source):
    lines = source.split("\n")
    faults = [(0, "more than 400 lines", len(lines))] if len(lines) > 401 else []
    for number, line in enumerate(lines, start=1):
        if len(line) > 120:
            faults.append((number, "more than 120 signs", len(line)))
        faults.extend((number, "sign", sign) for sign in line if not " " <= sign <= "~")
        faults.extend((number, "word", found.group()) for found in SHUNNED_WORDS.finditer(line))
    return faults


def all_faults(source):
    tree = ast.parse(source)
    return (text_faults(source) + import_faults(tree) + name_faults(tree) + method_faults(tree)
            + form_faults(tree))


class PackageFiles(unittest.TestCase):
    def test_the_folder_holds_plain_files_alone(self):
        found = sorted(path.name for path in PACKAGE.iterdir() if path.name != "__pycache__")
        for name in ("__init__.py", "desk.py", "errors.py", "lines.py", "plans.py", "rows.py", "story.py"):
            self.assertIn(name, found)
        for name in found:
            self.assertRegex(name, r"\A([a-z][a-z0-9_]*|__init__|__main__)\.py\Z")

    def test_every_file_keeps_to_the_language(self):
        for path in sorted(PACKAGE.glob("*.py")):
            with self.subTest(file=path.name):
                self.assertEqual(all_faults(path.read_bytes().decode("utf-8")), [])

    def test_no_two_files_draw_from_one_another(self):
        drawn = {}
        for path in PACKAGE.glob("*.py"):
            tree = ast.parse(path.read_bytes())
            drawn[path.stem] = {node.module.split(".")[1] for node in ast.walk(tree)
                                if isinstance(node, ast.ImportFrom)}
        while drawn:
            last = [stem for stem in drawn if not drawn[stem] & set(drawn)]
            self.assertNotEqual(last, [], "these draw from one another: " + str(sorted(drawn)))
            for stem in last:
                del drawn[stem]

    def test_each_drawn_name_is_defined_in_the_very_file(self):
        for path in sorted(PACKAGE.glob("*.py")):
            for node in ast.walk(ast.parse(path.read_bytes())):
                if isinstance(node, ast.ImportFrom):
                    source = ast.parse((PACKAGE / (node.module.split(".")[1] + ".py")).read_bytes())
                    at_the_top = [row for row in source.body if not isinstance(row, ast.ImportFrom)]
                    for alias in node.names:
                        with self.subTest(file=path.name, name=alias.name):
                            self.assertIn(alias.name, bound_names(ast.Module(at_the_top, [])))

    def test_what_lies_outside_is_seen(self):
        for source in ("import time\n", "from random import random\n", "from os import path\n",
                       "from . import errors\n", "from weirgauge.errors import *\n",
                       "def f():\n    return open('x')\n", "def f():\n    return __import__('time')\n",
                       "def f(a):\n    return a / 2\n", "def f(a):\n    a.sort()\n", "HALF = 0.5\n",
                       "def f(a):\n    return a.__class__\n", "def f(a):\n    print(a)\n",
                       "def f(len):\n    return len\n", "# its type\n", "ONE = 1\t\n"):
            with self.subTest(source=source):
                self.assertNotEqual(all_faults(source), [])


if __name__ == "__main__":
    unittest.main()
