"""The package keeps to the rules of ../shared/LANGUAGE.md, as far as they are plain to see.

It also holds point 1's "no clock, no chance, no files": nothing is imported but the package itself,
and no built-in name is used beyond those that the rules list.
"""

import ast
import builtins
import pathlib
import re
import unittest

PACKAGE = pathlib.Path(__file__).resolve().parent.parent / "loomarrays"

STATEMENTS = (ast.Assign, ast.AugAssign, ast.AnnAssign, ast.If, ast.While, ast.For, ast.Return, ast.Break,
              ast.Continue, ast.Pass, ast.Raise, ast.Try, ast.Expr, ast.FunctionDef, ast.ClassDef, ast.ImportFrom)
NO_EXPRESSIONS = (ast.SetComp, ast.DictComp, ast.GeneratorExp, ast.NamedExpr, ast.Starred, ast.Await,
                  ast.Yield, ast.YieldFrom, ast.Div, ast.MatMult)
BUILTINS = set("""len range enumerate zip min max sum abs sorted reversed int str bool list tuple dict set frozenset
    isinstance ord repr any all divmod Exception ValueError TypeError KeyError IndexError LookupError
    ZeroDivisionError ArithmeticError OverflowError RuntimeError NotImplementedError AttributeError
    StopIteration""".split())
NO_NAMES = set("""attrgetter gc importlib methodcaller os sys register mro elements version_info with_traceback
    add_note format format_map""".split())
METHODS_OF_TWO = {"__init__", "__eq__", "__repr__", "__str__", "__len__"}
NO_METHODS = {name for kind in (str, int, list, tuple, dict, set, frozenset, bytes) for name in dir(kind)} - set("""
    append clear copy count endswith extend find get index insert isalnum isalpha isdigit islower isspace isupper
    items join keys ljust lower lstrip partition pop remove replace reverse rfind rjust rpartition rsplit rstrip
    setdefault split splitlines startswith strip update upper values zfill bit_length add discard""".split())
WALKED = {"zip", "enumerate", "reversed", "range", "items", "keys", "values"}
WALKERS = {"list", "tuple", "dict", "sorted", "sum", "any", "all", "enumerate", "zip"}
NO_WORDS = re.compile(
    r"\b(type|typing|typing_extensions|enum|Enum|IntEnum|StrEnum|Flag|IntFlag|Generic|Protocol|ABC|ABCMeta"
    r"|namedtuple|NamedTuple|TypedDict|TYPE_CHECKING|abstractmethod)\b|dataclass|overload|contextmanager")


def faults_of_text(text):
    rows = text.split("\n")
    if len(rows) > 401:
        yield "L10 file too long"
    for number, row in enumerate(rows, 1):
        if len(row) > 120:
            yield f"L10 line {number} too long"
        if not all(" " <= sign <= "~" for sign in row):
            yield f"L14 sign in line {number}"
        if NO_WORDS.search(row):
            yield f"L17 word in line {number}"


def faults_of_top(tree):
    bound = []
    for node in tree.body:
        if isinstance(node, ast.Assign):
            bound.extend(target.id for target in node.targets)
        elif isinstance(node, (ast.FunctionDef, ast.ClassDef)):
            bound.append(node.name)
        elif isinstance(node, ast.ImportFrom):
            bound.extend(alias.asname or alias.name for alias in node.names)
        elif not (isinstance(node, ast.Expr) and isinstance(node.value, ast.Constant)):
            yield f"L3 line {node.lineno} at the top"
    if len(bound) != len(set(bound)):
        yield "L15 a name is bound twice at the top"


def faults_of_node(node):
    if isinstance(node, ast.stmt) and not isinstance(node, STATEMENTS):
        yield "L6 statement"
    if isinstance(node, NO_EXPRESSIONS):
        yield "L7 expression"
    if isinstance(node, ast.Constant) and isinstance(node.value, (float, complex, bytes)):
        yield "L7 value"
    if isinstance(node, ast.Constant) and isinstance(node.value, str) and "%" in node.value:
        yield "L27 sign in a text"
    if isinstance(node, ast.Assign) and (len(node.targets) > 1 or isinstance(node.targets[0], (ast.Tuple, ast.List))):
        yield "L6 targets"
    if isinstance(node, (ast.For, ast.While)) and node.orelse or isinstance(node, ast.Try) and node.finalbody:
        yield "L6 else or finally"
    if isinstance(node, ast.ListComp) and (len(node.generators) > 1 or len(node.generators[0].ifs) > 1):
        yield "L7 comprehension"
    if isinstance(node, ast.ImportFrom) and (
            node.level or not node.module.startswith("loomarrays.") or any(alias.name == "*" for alias in node.names)):
        yield "L2 import"
    if isinstance(node, ast.Compare) and any(isinstance(sign, (ast.Is, ast.IsNot)) for sign in node.ops):
        if not any(isinstance(side, ast.Constant) for side in [node.left] + node.comparators):
            yield "L20 is"


def faults_of_def(node):
    if isinstance(node, (ast.FunctionDef, ast.ClassDef)) and node.decorator_list:
        yield "L4 decorator"
    if isinstance(node, ast.FunctionDef):
        if node.end_lineno - node.lineno + 1 > 40:
            yield "L10 function too long"
        if node.args.vararg or node.args.kwarg or node.args.kwonlyargs or node.args.posonlyargs:
            yield "L4 parameters"
    if isinstance(node, ast.ClassDef):
        if len(node.bases) > 1 or node.keywords:
            yield "L5 bases"
        for inner in node.body:
            docstring = isinstance(inner, ast.Expr) and isinstance(inner.value, ast.Constant)
            if not (docstring or isinstance(inner, (ast.FunctionDef, ast.Pass))):
                yield "L5 class body"


def faults_of_names(node):
    if isinstance(node, ast.Name):
        if hasattr(builtins, node.id) and (node.id not in BUILTINS or not isinstance(node.ctx, ast.Load)):
            yield f"L8 name {node.id}"
    if isinstance(node, ast.arg) and hasattr(builtins, node.arg):
        yield f"L15 parameter {node.arg}"
    if isinstance(node, ast.Attribute) and node.attr in NO_METHODS - METHODS_OF_TWO:
        yield f"L25 method {node.attr}"
    names = [value for field, value in ast.iter_fields(node) if field in ("id", "attr", "arg", "name", "asname")]
    for name in names:
        if isinstance(name, str) and name not in METHODS_OF_TWO:
            if not re.fullmatch("[A-Za-z][A-Za-z0-9_]*", name) or name in NO_NAMES:
                yield f"L12 or L17 name {name}"


def name_called(node):
    return getattr(node.func, "id", getattr(node.func, "attr", None)) if isinstance(node, ast.Call) else None


def faults_of_walks(tree):
    """L23: what is to be walked on the spot, and is not."""
    walked = set()
    for node in ast.walk(tree):
        if isinstance(node, (ast.For, ast.comprehension)):
            walked.add(node.iter)
        elif name_called(node) in WALKERS | {"join"} or name_called(node) in ("min", "max") and len(node.args) == 1:
            walked.update(node.args[:1])
    for node in ast.walk(tree):
        if name_called(node) in WALKED and node not in walked:
            yield f"L23 line {node.lineno}"


def faults_of_sets(tree):
    """L24: sets stand beside in, == and !=, or within sorted and len."""
    free = set()
    for node in ast.walk(tree):
        if isinstance(node, ast.Compare):
            free.update([node.left] + node.comparators)
        elif name_called(node) in ("sorted", "len"):
            free.update(node.args)
    for node in ast.walk(tree):
        if (isinstance(node, ast.Set) or name_called(node) in ("set", "frozenset")) and node not in free:
            yield f"L24 line {node.lineno}"


def faults_of_locals(tree):
    """L15: parameters and locals that are called like a class or an import of their file."""
    taken = {alias.name for node in tree.body if isinstance(node, ast.ImportFrom) for alias in node.names}
    taken |= {node.name for node in tree.body if isinstance(node, ast.ClassDef)}
    for node in ast.walk(tree):
        named = node.arg if isinstance(node, ast.arg) else None
        if isinstance(node, ast.Name) and isinstance(node.ctx, ast.Store):
            named = node.id
        if named in taken:
            yield f"L15 name {named} in line {node.lineno}"


def names_kept(texts):
    """The names of all methods and of all values of objects in these files."""
    methods, values = set(), set()
    for tree in map(ast.parse, texts):
        for node in ast.walk(tree):
            if isinstance(node, ast.ClassDef):
                methods.update(inner.name for inner in node.body if isinstance(inner, ast.FunctionDef))
            elif isinstance(node, ast.Attribute) and isinstance(node.ctx, ast.Store):
                values.add(node.attr)
    return methods, values


def faults_in(text):
    """What in a file's text breaks a rule, a word for each."""
    tree = ast.parse(text)
    faults = list(faults_of_text(text)) + list(faults_of_top(tree))
    faults += list(faults_of_walks(tree)) + list(faults_of_sets(tree)) + list(faults_of_locals(tree))
    for node in ast.walk(tree):
        for look in (faults_of_node, faults_of_def, faults_of_names):
            faults.extend(look(node))
    return faults


def modules_drawn_from(text):
    return [node.module for node in ast.walk(ast.parse(text)) if isinstance(node, ast.ImportFrom)]


class ThePackage(unittest.TestCase):
    def test_holds_plain_files_alone(self):
        names = [path.name for path in PACKAGE.iterdir() if path.name != "__pycache__"]
        self.assertIn("__init__.py", names)
        for name in names:
            self.assertRegex(name, r"\A(__init__|[a-z][a-z0-9_]*)\.py\Z")

    def test_keeps_to_the_rules(self):
        for path in sorted(PACKAGE.glob("*.py")):
            self.assertEqual(faults_in(path.read_text("utf-8")), [], path.name)

    def test_no_name_is_a_method_and_a_value(self):
        methods, values = names_kept([path.read_text("utf-8") for path in PACKAGE.glob("*.py")])
        self.assertEqual(methods & values, set(), "L18")

    def test_names_are_drawn_from_the_file_that_defines_them(self):
        for path in PACKAGE.glob("*.py"):
            for node in ast.walk(ast.parse(path.read_text("utf-8"))):
                for alias in node.names if isinstance(node, ast.ImportFrom) else ():
                    source = PACKAGE / (node.module.split(".")[1] + ".py")
                    bound = rf"(?m)^((def|class) {alias.name}\b|{alias.name} =)"
                    self.assertRegex(source.read_text("utf-8"), bound, "L16")

    def test_no_two_files_draw_from_one_another(self):
        drawn = {f"loomarrays.{path.stem}": modules_drawn_from(path.read_text("utf-8"))
                 for path in PACKAGE.glob("*.py")}
        while drawn:
            free = [name for name in drawn if not any(other in drawn for other in drawn[name])]
            self.assertTrue(free, f"L16 in a ring: {sorted(drawn)}")
            for name in free:
                drawn.pop(name)


class TheRules(unittest.TestCase):
    def test_what_breaks_one_is_seen(self):
        for text in ("import os", "from os import path", "from loomarrays.sides import *", "from .sides import a",
                     "def f(*a):\n    return 1", "def f(a):\n    return a / 2", "def f():\n    return 0.5",
                     "def f():\n    return open(1)", "def f(xs):\n    xs.sort()", "def f():\n    a = b = 1",
                     "def f(t):\n    a, b = t", "def f(a):\n    assert a", "def f(a):\n    yield a",
                     "def f(xs):\n    return sum(x for x in xs)", "def f(a):\n    return a is f",
                     "def f(min):\n    pass",
                     "def f(a):\n    for _ in a:\n        pass", "class A:\n    a = 1", "class A(B, C):\n    pass",
                     "A = 1\nA = 2", "f(1)", "# the type of it", "# \u00e4", "#" + "x" * 120, "A = '%'",
                     "def f(a):\n    return a in range(3)", "def f(a):\n    b = zip(a, a)\n    return 1",
                     "def f(a):\n    return list(reversed(range(a)))", "def f(d):\n    return d.items()",
                     "from loomarrays.sides import cells_in\n\ndef f(cells_in):\n    return 1",
                     "class A:\n    pass\n\ndef f(b):\n    A = b\n    return A",
                     "def f(a):\n    b = set(a)\n    return 1", "def f(a):\n    return len([b for b in {a}])",
                     "def f():\n" + "    f()\n" * 40):
            self.assertNotEqual(faults_in(text), [], text)

    def test_what_keeps_them_is_let_by(self):
        for text in ("", '"""Words."""\n\nA = 1\n', "from loomarrays.errors import NoTable\n",
                     "class A(ValueError):\n    def __init__(self, at):\n        self.at = at\n",
                     "def f(xs):\n    return [x for x in xs if x is not None]\n",
                     "def f(d):\n    return max(d.values()) + len(set(d)) + sum([k for k in range(3)])\n"):
            self.assertEqual(faults_in(text), [], text)

    def test_a_name_that_is_a_method_and_a_value_is_seen(self):
        methods, values = names_kept(["class A:\n    def b(self):\n        pass", "def f(a):\n    a.b = 1"])
        self.assertEqual(methods & values, {"b"})


if __name__ == "__main__":
    unittest.main()
