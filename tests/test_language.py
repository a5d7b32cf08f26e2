"""Point [1], no clock, chance or files, and the rules of LANGUAGE.md that can be read off a file.

What a rule says of how values are used (L11, L13, L15, L18, L19, L22 to L24, L26, L28) is checked here in part
alone; what is checked is checked strictly.
"""

import ast
import builtins
import os
import re
import unittest

PACKAGE = os.path.join(os.path.dirname(os.path.dirname(os.path.abspath(__file__))), "twomeet")

BUILTINS = set(
    "len range enumerate zip min max sum abs sorted reversed int str bool list tuple dict set frozenset isinstance "
    "ord repr any all divmod Exception ValueError TypeError KeyError IndexError LookupError ZeroDivisionError "
    "ArithmeticError OverflowError RuntimeError NotImplementedError AttributeError StopIteration".split()
)
METHODS = set(
    "append clear copy count endswith extend find get index insert isalnum isalpha isdigit islower isspace isupper "
    "items join keys ljust lower lstrip partition pop remove replace reverse rfind rjust rpartition rsplit rstrip "
    "setdefault split splitlines startswith strip update upper values zfill bit_length".split()
)
DUNDERS = {"__init__", "__eq__", "__repr__", "__str__", "__len__"}
WORDS = (
    r"\b(type|typing|typing_extensions|enum|Enum|IntEnum|StrEnum|Flag|IntFlag|Generic|Protocol|ABC|ABCMeta|namedtuple"
    r"|NamedTuple|TypedDict|TYPE_CHECKING|abstractmethod)\b|dataclass|overload|contextmanager"
)
UNUSED = {"register", "mro", "elements", "open", "input", "version_info", "with_traceback", "add_note", "format"}
STATEMENTS = (
    ast.Assign, ast.AugAssign, ast.If, ast.While, ast.For, ast.Return, ast.Break, ast.Continue, ast.Pass, ast.Raise,
    ast.Try, ast.Expr, ast.FunctionDef,
)
EXPRESSIONS = (
    ast.Constant, ast.List, ast.Tuple, ast.Dict, ast.BinOp, ast.UnaryOp, ast.Compare, ast.BoolOp, ast.IfExp, ast.Call,
    ast.Attribute, ast.Subscript, ast.Slice, ast.ListComp, ast.Name, ast.Lambda, ast.JoinedStr, ast.FormattedValue,
)


def is_text(node):
    return isinstance(node, ast.Expr) and isinstance(node.value, ast.Constant) and isinstance(node.value.value, str)


def size_faults(text):
    lines = text.split("\n")
    found = [("L10", number) for number, line in enumerate(lines, 1) if len(line) > 120]
    found += [("L14", number) for number, line in enumerate(lines, 1) if not re.fullmatch("[ -~]*", line)]
    found += [("L17", number) for number, line in enumerate(lines, 1) if re.search(WORDS, line)]
    return found + ([("L10", 400)] if len(text.splitlines()) > 400 else [])


def import_faults(node):
    good = isinstance(node, ast.ImportFrom) and node.level == 0 and (node.module or "").startswith("twomeet.")
    if good and all(alias.name != "*" for alias in node.names):
        return []
    return [("L2", node.lineno)]


def top_faults(tree):
    """What stands at a file's top, and that each name is bound there once."""
    found = []
    names = []
    for place, node in enumerate(tree.body):
        if isinstance(node, (ast.FunctionDef, ast.ClassDef)):
            names.append(node.name)
        elif isinstance(node, ast.Assign) and len(node.targets) == 1 and isinstance(node.targets[0], ast.Name):
            names.append(node.targets[0].id)
        elif isinstance(node, (ast.Import, ast.ImportFrom)):
            found += import_faults(node)
            names += [alias.name for alias in node.names]
        elif not (place == 0 and is_text(node)):
            found.append(("L3", node.lineno))
    return found + [("L15", 1) for name in set(names) if names.count(name) > 1]


def def_faults(node):
    found = []
    given = node.args
    if given.vararg or given.kwarg or given.kwonlyargs or given.posonlyargs or node.decorator_list:
        found.append(("L4", node.lineno))
    if node.end_lineno - node.lineno + 1 > 40:
        found.append(("L10", node.lineno))
    bound = [one.arg for one in given.args] + [
        one.id for one in ast.walk(node) if isinstance(one, ast.Name) and isinstance(one.ctx, ast.Store)
    ]
    return found + [("L15", node.lineno) for name in bound if hasattr(builtins, name)]


def class_faults(node):
    good = len(node.bases) <= 1 and not node.keywords and not node.decorator_list
    if good and all(isinstance(one, (ast.FunctionDef, ast.Pass)) or is_text(one) for one in node.body):
        return []
    return [("L5", node.lineno)]


def name_faults(node):
    """Names that are bound or used, as names, methods or values."""
    found = []
    for text in [getattr(node, field, None) for field in ("id", "attr", "arg", "name", "asname")]:
        if not isinstance(text, str):
            continue
        if text not in DUNDERS and not re.fullmatch("[A-Za-z][A-Za-z0-9_.]*", text):
            found.append(("L12", getattr(node, "lineno", 1)))
        if text in UNUSED:
            found.append(("L17", getattr(node, "lineno", 1)))
    if isinstance(node, ast.Name) and hasattr(builtins, node.id) and node.id not in BUILTINS:
        found.append(("L8", node.lineno))
    return found


def value_faults(node):
    """What a single statement or expression may be."""
    if isinstance(node, ast.stmt) and not isinstance(node, STATEMENTS + (ast.ClassDef, ast.Import, ast.ImportFrom)):
        return [("L6", node.lineno)]
    if isinstance(node, ast.expr) and not isinstance(node, EXPRESSIONS):
        return [("L7", node.lineno)]
    if isinstance(node, ast.Expr) and not (isinstance(node.value, ast.Call) or is_text(node)):
        return [("L6", node.lineno)]
    if isinstance(node, ast.Assign) and len(node.targets) > 1:
        return [("L6", node.lineno)]
    if isinstance(node, (ast.While, ast.For)) and node.orelse or isinstance(node, ast.Try) and node.finalbody:
        return [("L6", node.lineno)]
    if isinstance(node, ast.Constant) and not isinstance(node.value, (int, str, type(None))):
        return [("L7", node.lineno)]
    if isinstance(node, (ast.BinOp, ast.AugAssign)) and isinstance(node.op, (ast.Div, ast.MatMult)):
        return [("L7", node.lineno)]
    if isinstance(node, ast.ListComp) and (len(node.generators) > 1 or len(node.generators[0].ifs) > 1):
        return [("L7", node.lineno)]
    if isinstance(node, ast.Constant) and isinstance(node.value, str) and "%" in node.value:
        return [("L27", node.lineno)]
    return []


def use_faults(node):
    """How names of Python's own are used."""
    if isinstance(node, ast.Compare) and any(isinstance(one, (ast.Is, ast.IsNot)) for one in node.ops):
        if not all(isinstance(one, ast.Constant) and one.value in (None, True, False) for one in node.comparators):
            return [("L20", node.lineno)]
    if isinstance(node, ast.ExceptHandler):
        if node.type is None or isinstance(node.type, ast.Name) and node.type.id in ("Exception", "TypeError"):
            return [("L19", node.lineno)]
    if isinstance(node, ast.BinOp) and isinstance(node.op, ast.Pow):
        if not (isinstance(node.right, ast.Constant) and node.right.value in range(65)):
            return [("L27", node.lineno)]
    return []


def shadow_faults(tree):
    """Parameters and locals that are called like a class or an import of their file."""
    kept = [node.name for node in tree.body if isinstance(node, ast.ClassDef)]
    kept += [alias.name for node in tree.body if isinstance(node, ast.ImportFrom) for alias in node.names]
    found = []
    for node in [one for top in tree.body if not isinstance(top, ast.Assign) for one in ast.walk(top)]:
        text = node.arg if isinstance(node, ast.arg) else getattr(node, "id", None)
        if text in kept and not isinstance(getattr(node, "ctx", None), ast.Load):
            found.append(("L15", node.lineno))
    return found


def method_faults(tree, own):
    """Methods that are called, but neither the program's own nor those of L25."""
    called = [node.func for node in ast.walk(tree) if isinstance(node, ast.Call)]
    return [
        ("L25", node.lineno) for node in called
        if isinstance(node, ast.Attribute) and node.attr not in METHODS and node.attr not in own
    ]


def methods_of(tree):
    classes = [node for node in ast.walk(tree) if isinstance(node, ast.ClassDef)]
    return [one.name for node in classes for one in node.body if isinstance(one, ast.FunctionDef)] + ["__init__"]


def faults(text, own=()):
    """The rules that a file's text breaks, with the lines."""
    tree = ast.parse(text)
    found = size_faults(text) + top_faults(tree) + method_faults(tree, list(own) + methods_of(tree))
    found += shadow_faults(tree)
    inner = [one for node in ast.walk(tree) for one in ast.iter_child_nodes(node) if not isinstance(node, ast.Module)]
    found += [("L2", one.lineno) for one in inner if isinstance(one, (ast.Import, ast.ImportFrom))]
    found += [("L15", one.lineno) for one in inner if isinstance(one, ast.ClassDef)]
    for node in ast.walk(tree):
        found += name_faults(node) + value_faults(node) + use_faults(node)
        if isinstance(node, ast.FunctionDef):
            found += def_faults(node)
        if isinstance(node, ast.ClassDef):
            found += class_faults(node)
    return found


def files():
    return sorted([one for one in os.listdir(PACKAGE) if one != "__pycache__"])


def text_of(file):
    with open(os.path.join(PACKAGE, file), encoding="utf-8", newline="") as opened:
        return opened.read()


def drawn_from(file):
    """The package's files that a file imports from, with the names."""
    rows = [node for node in ast.parse(text_of(file)).body if isinstance(node, ast.ImportFrom)]
    return [(node.module.split(".")[-1] + ".py", [alias.name for alias in node.names]) for node in rows]


def defined_in(file):
    body = ast.parse(text_of(file)).body
    named = [node.name for node in body if isinstance(node, (ast.FunctionDef, ast.ClassDef))]
    return named + [node.targets[0].id for node in body if isinstance(node, ast.Assign)]


class PackageTest(unittest.TestCase):
    def test_only_plain_files_lie_in_the_package(self):
        self.assertIn("__init__.py", files())
        for file in files():
            with self.subTest(file):
                self.assertTrue(os.path.isfile(os.path.join(PACKAGE, file)))
                self.assertRegex(file, r"\A([a-z][a-z0-9_]*|__init__|__main__)\.py\Z")
                self.assertNotRegex(file, r"\A(test|tests|testing|test_.*|site|conftest|.*customize)\.py\Z")
                self.assertFalse(file[:-3] in vars(builtins) or re.search(WORDS, file))

    def test_every_file_keeps_to_the_rules(self):
        own = [name for file in files() for name in methods_of(ast.parse(text_of(file)))]
        for file in files():
            with self.subTest(file):
                self.assertEqual(faults(text_of(file), own), [])

    def test_names_are_drawn_from_the_very_file_that_defines_them(self):
        for file in files():
            for other, names in drawn_from(file):
                for name in names:
                    self.assertIn(name, defined_in(other), file)

    def test_no_two_files_draw_from_one_another(self):
        left = dict([(file, [other for other, names in drawn_from(file)]) for file in files()])
        while left:
            free = [file for file in left if not any(other in left for other in left[file])]
            self.assertNotEqual(free, [], "these draw from one another: " + ", ".join(sorted(left)))
            left = dict([(file, left[file]) for file in left if file not in free])

    def test_no_name_is_a_method_in_one_class_and_a_value_in_another(self):
        methods = [name for file in files() for name in methods_of(ast.parse(text_of(file)))]
        stored = [node.attr for file in files() for node in ast.walk(ast.parse(text_of(file)))
                  if isinstance(node, ast.Attribute) and isinstance(node.ctx, ast.Store)]
        self.assertIn("place", stored)
        self.assertEqual([name for name in stored if name in methods], [])
        for name in stored + [name for name in methods if name not in DUNDERS]:
            for own in ("", 0, [], {}, set(), b""):
                self.assertFalse(hasattr(own, name), name)

    def test_the_init_file_binds_no_name_that_a_file_has(self):
        for file in files():
            for name in defined_in(file) if file != "__init__.py" else []:
                self.assertNotIn(name, defined_in("__init__.py"))


class FaultsTest(unittest.TestCase):
    """A check that finds nothing anywhere would pass, so each is shown something to find."""

    def test_faults_are_found(self):
        for rule, text in (
            ("L2", "import time"), ("L2", "import random"), ("L2", "from os import path"),
            ("L2", "from .kinds import met"), ("L2", "from twomeet.kinds import *"),
            ("L2", "def f():\n    from time import time"), ("L3", "if True:\n    x = 1"), ("L3", "print(1)"),
            ("L4", "def f(*a):\n    return a"), ("L4", "def f(*, a):\n    return a"), ("L5", "class A:\n    x = 1"),
            ("L5", "class A(B, C):\n    pass"), ("L6", "def f(a):\n    del a[0]"), ("L6", "def f(a):\n    a == 1"),
            ("L6", "def f():\n    with g():\n        pass"), ("L6", "def f():\n    x = y = 1"),
            ("L6", "def f(a):\n    for x in a:\n        pass\n    else:\n        pass"),
            ("L7", "def f(a):\n    return a / 2"), ("L7", "x = 1.5"), ("L7", "x = b''"),
            ("L7", "def f(a):\n    return {b for b in a}"), ("L7", "def f(a):\n    return list(b for b in a)"),
            ("L8", "def f(a):\n    return hash(a)"), ("L8", "def f(a):\n    return print(a)"),
            ("L8", "def f(a):\n    return chr(a)"), ("L10", "x = 1" + " " * 120),
            ("L10", "x = [\n" + "1,\n" * 400 + "]"), ("L10", "def f():\n" + "    f()\n" * 40),
            ("L12", "def f(_a):\n    return _a"), ("L12", "def f(a):\n    return a.__class__"),
            ("L14", "# \u00e4"), ("L14", "x\t= 1"), ("L15", "x = 1\nx = 2"),
            ("L15", "def f(id):\n    return id"), ("L15", "from twomeet.kinds import met\n\ndef f(met):\n    return met"),
            ("L15", "class A:\n    pass\n\ndef f(a):\n    A = a\n    return A"),
            ("L17", "# a type"), ("L17", "def f(a):\n    return open(a)"),
            ("L19", "def f():\n    try:\n        f()\n    except Exception:\n        pass"),
            ("L20", "def f(a, b):\n    return a is b"), ("L25", "def f(a):\n    a.sort()"),
            ("L27", "def f(a):\n    return 2 ** a"), ("L27", "x = '%'"),
        ):
            with self.subTest(rule=rule, text=text):
                self.assertIn(rule, [found for found, line in faults(text)])


if __name__ == "__main__":
    unittest.main()
