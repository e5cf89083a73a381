"""The package's files against a part of the rules of LANGUAGE.md, not all of them."""

import ast
import builtins
import pathlib
import re
import unittest

PACKAGE = pathlib.Path(__file__).resolve().parent.parent / "rowsets"

STATEMENTS = (
    ast.Module, ast.FunctionDef, ast.ClassDef, ast.ImportFrom, ast.Assign, ast.AugAssign, ast.If,
    ast.While, ast.For, ast.Return, ast.Break, ast.Continue, ast.Pass, ast.Raise, ast.Try,
    ast.ExceptHandler, ast.Expr, ast.arguments, ast.arg, ast.alias)
EXPRESSIONS = (
    ast.Constant, ast.Name, ast.List, ast.Tuple, ast.Dict, ast.BinOp, ast.UnaryOp, ast.BoolOp,
    ast.Compare, ast.IfExp, ast.Call, ast.keyword, ast.Attribute, ast.Subscript, ast.Slice,
    ast.ListComp, ast.comprehension, ast.JoinedStr, ast.FormattedValue, ast.Lambda, ast.Set,
    ast.expr_context, ast.operator, ast.unaryop, ast.boolop, ast.cmpop)
ALLOWED_NAMES = set(
    "len range enumerate zip min max sum abs sorted reversed int str bool list tuple dict set "
    "frozenset isinstance ord repr any all divmod Exception ValueError TypeError KeyError "
    "IndexError LookupError ZeroDivisionError ArithmeticError OverflowError RuntimeError "
    "NotImplementedError AttributeError StopIteration".split())
FORBIDDEN_WORDS = re.compile(
    r"\b(type|typing|typing_extensions|enum|Enum|IntEnum|StrEnum|Flag|IntFlag|Generic|Protocol|ABC|"
    r"ABCMeta|namedtuple|NamedTuple|TypedDict|TYPE_CHECKING|abstractmethod)\b"
    r"|dataclass|overload|contextmanager")
METHODS = set(
    "append clear copy count endswith extend find get index insert isalnum isalpha isdigit islower "
    "isspace isupper items join keys ljust lower lstrip partition pop remove replace reverse rfind "
    "rjust rpartition rsplit rstrip setdefault split splitlines startswith strip update upper values "
    "zfill bit_length".split())
PYTHONS_METHODS = set(dir("") + dir(0) + dir([]) + dir({}) + dir(set()) + dir(b""))


def faults_of_text(text):
    for number, line in enumerate(text.split("\n"), start=1):
        if len(line) > 120:
            yield "L10", number
        if re.search(r"[^ -~]", line):
            yield "L14", number
        if FORBIDDEN_WORDS.search(line):
            yield "L17", number
    if len(text.splitlines()) > 400:
        yield "L10", 401


def faults_of_top(tree):
    """Names at a file's top: each bound once."""
    bound = set()
    for node in tree.body:
        names = []
        if isinstance(node, (ast.FunctionDef, ast.ClassDef)):
            names = [node.name]
        elif isinstance(node, ast.Assign):
            names = [target.id for target in node.targets if isinstance(target, ast.Name)]
        elif isinstance(node, ast.ImportFrom):
            names = [alias.asname or alias.name for alias in node.names]
        elif not (isinstance(node, ast.Expr) and isinstance(node.value, ast.Constant)):
            yield "L3", node.lineno
        for name in names:
            if name in bound:
                yield "L15", node.lineno
            bound.add(name)


def faults_of_def(node):
    if node.end_lineno - node.lineno + 1 > 40:
        yield "L10", node.lineno
    given = node.args
    if node.decorator_list or given.vararg or given.kwarg or given.kwonlyargs or given.posonlyargs:
        yield "L4", node.lineno


def faults_of_name(name, line, is_bound):
    if name.startswith("_"):
        yield "L12", line
    if name in dir(builtins) and (is_bound or name not in ALLOWED_NAMES):
        yield "L8", line


def faults_of_constant(node):
    if isinstance(node.value, (float, complex, bytes)) or node.value is Ellipsis:
        yield "L7", node.lineno
    if isinstance(node.value, str) and "%" in node.value:
        yield "L27", node.lineno


def faults_of_node(node):
    line = getattr(node, "lineno", 0)
    if not isinstance(node, STATEMENTS + EXPRESSIONS):
        yield "L6, L7", line
    if isinstance(node, (ast.Div, ast.MatMult)):
        yield "L7", line
    if isinstance(node, ast.FunctionDef):
        yield from faults_of_def(node)
    if isinstance(node, ast.ImportFrom) and (node.level or not node.module.startswith("rowsets.")):
        yield "L2", line
    if isinstance(node, ast.Assign) and len(node.targets) > 1:
        yield "L6", line
    if isinstance(node, (ast.For, ast.While)) and node.orelse:
        yield "L6", line
    if isinstance(node, ast.Try) and node.finalbody:
        yield "L6", line
    if isinstance(node, ast.ListComp) and (len(node.generators) > 1 or len(node.generators[0].ifs) > 1):
        yield "L7", line
    if isinstance(node, ast.Name):
        yield from faults_of_name(node.id, line, isinstance(node.ctx, ast.Store))
    if isinstance(node, ast.arg):
        yield from faults_of_name(node.arg, line, True)
    if isinstance(node, ast.Constant):
        yield from faults_of_constant(node)
    if isinstance(node, ast.BinOp) and isinstance(node.op, ast.Pow):
        if not (isinstance(node.right, ast.Constant) and 0 <= node.right.value <= 64):
            yield "L27", line
    if isinstance(node, ast.Attribute) and node.attr in PYTHONS_METHODS - METHODS:
        yield "L25", line


def faults(text):
    tree = ast.parse(text)
    found = list(faults_of_text(text)) + list(faults_of_top(tree))
    for node in ast.walk(tree):
        found.extend(faults_of_node(node))
    return found


class Language(unittest.TestCase):
    def test_files(self):
        names = sorted(path.name for path in PACKAGE.iterdir() if path.name != "__pycache__")
        self.assertIn("__init__.py", names)
        for name in names:
            self.assertRegex(name, r"\A(__init__|__main__|[a-z][a-z0-9_]*)\.py\Z")

    def test_the_package_keeps_to_the_rules(self):
        for path in sorted(PACKAGE.glob("*.py")):
            self.assertEqual(faults(path.read_bytes().decode("utf-8")), [], path.name)

    def test_the_check_sees_faults(self):
        wrong = {
            "import os": "L6, L7", "from os import path": "L2", "from . import a": "L2",
            "x = 1 / 2": "L7", "x = 1.5": "L7", "x = y = 1": "L6", "x = [*y]": "L6, L7",
            "def f(*a):\n    pass": "L4", "def f(len):\n    pass": "L8", "x = eval(y)": "L8",
            "x = 2 ** y": "L27", "x = 'a % b'": "L27", "x = 1\nx = 2": "L15", "# a type": "L17",
            "x = '\u00e4'": "L14", "f = 1\t": "L14", "x_y = y.sort()": "L25", "_x = 1": "L12",
            "def f():\n" + "    pass\n" * 40: "L10", "x = 1 # " + "-" * 120: "L10",
            "def f():\n    global x": "L6, L7", "def f():\n    yield 1": "L6, L7",
            "if x:\n    pass": "L3", "x = {y for y in z}": "L6, L7", "x = print(y)": "L8",
        }
        for text, rule in wrong.items():
            self.assertIn(rule, [fault[0] for fault in faults(text)], text)


if __name__ == "__main__":
    unittest.main()
