"""What the package may draw on: its own files alone, so no clock, no chance and no files."""

import ast
import builtins
import pathlib
import re
import unittest

PACKAGE = pathlib.Path(__file__).resolve().parent.parent / "roomweek"

ALLOWED = set("""
    len range enumerate zip min max sum abs sorted reversed int str bool list tuple dict set frozenset
    isinstance ord repr any all divmod Exception ValueError TypeError KeyError IndexError LookupError
    ZeroDivisionError ArithmeticError OverflowError RuntimeError NotImplementedError AttributeError
    StopIteration
""".split())

# The package keeps its values in tuples and lists alone, so it has no attributes but these methods.
CALLED = set("""
    append clear copy count endswith extend find get index insert isalnum isalpha isdigit islower isspace isupper
    items join keys ljust lower lstrip partition pop remove replace reverse rfind rjust rpartition rsplit rstrip
    setdefault split splitlines startswith strip update upper values zfill bit_length
""".split())

METHODS = ("__init__", "__eq__", "__repr__", "__str__", "__len__")

STATEMENTS = (
    ast.Assign, ast.AugAssign, ast.If, ast.While, ast.For, ast.Return, ast.Break, ast.Continue, ast.Pass,
    ast.Raise, ast.Try, ast.Expr, ast.FunctionDef, ast.ClassDef, ast.ImportFrom,
)

EXPRESSIONS = (
    ast.BoolOp, ast.BinOp, ast.UnaryOp, ast.IfExp, ast.Compare, ast.Call, ast.Attribute, ast.Subscript, ast.Slice,
    ast.Constant, ast.Name, ast.List, ast.Tuple, ast.Dict, ast.ListComp, ast.Lambda, ast.JoinedStr,
    ast.FormattedValue,
)

WORDS = re.compile(r"""
    \b(type|typing|typing_extensions|enum|Enum|IntEnum|StrEnum|Flag|IntFlag|Generic|Protocol|ABC|ABCMeta|namedtuple
    |NamedTuple|TypedDict|TYPE_CHECKING|abstractmethod)\b | dataclass | overload | contextmanager
""", re.VERBOSE)


def form_faults(node):
    if isinstance(node, ast.expr) and not isinstance(node, EXPRESSIONS):
        yield f"expression {type(node).__name__}"
    if isinstance(node, ast.BinOp) and isinstance(node.op, ast.Div):
        yield "division with /"
    if isinstance(node, ast.ListComp) and (len(node.generators) > 1 or len(node.generators[0].ifs) > 1):
        yield "long comprehension"
    if isinstance(node, ast.Assign) and (len(node.targets) > 1 or isinstance(node.targets[0], (ast.Tuple, ast.List))):
        yield "several targets"
    if isinstance(node, (ast.For, ast.While)) and node.orelse or isinstance(node, ast.Try) and node.finalbody:
        yield "else behind a loop, or finally"
    if isinstance(node, ast.ExceptHandler) and not isinstance(node.type, ast.Name):
        yield "except without one name"
    if isinstance(node, ast.Raise) and not isinstance(node.exc, ast.Call):
        yield "raise without an error made on the spot"
    if isinstance(node, ast.Compare):
        for sign, value in zip(node.ops, node.comparators):
            if isinstance(sign, (ast.Is, ast.IsNot)) and not (
                    isinstance(value, ast.Constant) and repr(value.value) in ("None", "True", "False")):
                yield "is beside a value"
    if isinstance(node, ast.arguments):
        if node.vararg or node.kwarg or node.kwonlyargs or node.posonlyargs:
            yield "parameters that are not plain"
    if isinstance(node, ast.Name) and isinstance(node.ctx, ast.Store) or isinstance(node, ast.arg):
        name = node.id if isinstance(node, ast.Name) else node.arg
        if hasattr(builtins, name):
            yield f"{name} given another meaning"


def node_faults(node):
    yield from form_faults(node)
    if isinstance(node, ast.stmt) and not isinstance(node, STATEMENTS):
        yield f"statement {type(node).__name__}"
    if isinstance(node, ast.ImportFrom):
        if node.level or not node.module.startswith("roomweek."):
            yield f"import from {node.module}"
        if any(alias.name == "*" for alias in node.names):
            yield "import of *"
    if isinstance(node, ast.Name):
        if node.id.startswith("_"):
            yield f"name {node.id}"
        if hasattr(builtins, node.id) and node.id not in ALLOWED:
            yield f"built-in {node.id}"
    if isinstance(node, ast.Attribute) and node.attr not in CALLED:
        yield f"attribute {node.attr}"
    if isinstance(node, ast.Constant) and isinstance(node.value, (float, complex, bytes)):
        yield f"value {node.value!r}"
    if isinstance(node, ast.FunctionDef):
        if node.end_lineno - node.lineno >= 40:
            yield f"long function {node.name}"
        if node.name.startswith("_") and node.name not in METHODS:
            yield f"function {node.name}"


def faults(source):
    found = [fault for node in ast.walk(ast.parse(source)) for fault in node_faults(node)]
    lines = source.split("\n")
    if len(lines) > 401:
        found.append("long file")
    if any(len(line) > 120 for line in lines):
        found.append("long line")
    if any(not " " <= sign <= "~" for line in lines for sign in line):
        found.append("foreign sign")
    if WORDS.search(source):
        found.append("word that is not used")
    return found


def drawn_from(source):
    """The names of the package's files that a file imports from."""
    return {node.module.split(".")[1] for node in ast.walk(ast.parse(source)) if isinstance(node, ast.ImportFrom)}


def in_a_circle(drawn):
    """The files that draw on themselves, in however many steps."""
    found = []
    for name in drawn:
        reached = set()
        ahead = list(drawn[name])
        while ahead:
            other = ahead.pop()
            if other not in reached:
                reached.add(other)
                ahead.extend(drawn[other])
        if name in reached:
            found.append(name)
    return found


class Package(unittest.TestCase):
    def test_only_python_files_lie_in_it(self):
        names = sorted(path.name for path in PACKAGE.iterdir() if path.name != "__pycache__")
        self.assertIn("__init__.py", names)
        for name in names:
            self.assertRegex(name, r"\A[a-z0-9_]+\.py\Z")

    def test_each_file_draws_on_the_package_alone(self):
        for path in sorted(PACKAGE.glob("*.py")):
            self.assertEqual(faults(path.read_bytes().decode("utf-8")), [], path.name)

    def test_no_two_files_draw_on_one_another(self):
        self.assertEqual(in_a_circle({path.stem: drawn_from(path.read_text()) for path in PACKAGE.glob("*.py")}), [])


class TheCheckItself(unittest.TestCase):
    def test_clock_chance_and_files_are_found(self):
        for source in ("import time", "from random import choice", "from os import path", "import roomweek.spans",
                       "from . import spans", "open('x')", "print(1)", "input()", "__import__('time')",
                       "eval('1')", "().__class__", "global x", "x = 0.5", "#\t", "#" * 121, "\n" * 401,
                       "def f():\n" + "    pass\n" * 40):
            self.assertNotEqual(faults(source), [], source[:40])

    def test_what_is_outside_the_language_is_found(self):
        for source in ("x = {1}", "x = [a for a in b for c in a]", "x = (a for a in b)", "x = {a: 1 for a in b}",
                       "x = y = 1", "x, y = z", "x = 1 / 2", "for x in y:\n    pass\nelse:\n    pass", "x = [*y]",
                       "try:\n    pass\nfinally:\n    pass", "try:\n    f()\nexcept (A, B):\n    pass", "raise NoName",
                       "x = y is z", "x = y is 1", "def f(*x):\n    pass", "max = 1", "def f(id):\n    pass",
                       "y.sort()", "# a type", "x = (y := 1)", "assert x", "with x:\n    pass", "del x"):
            self.assertNotEqual(faults(source), [], source)
        self.assertEqual(sorted(in_a_circle({"a": ["b"], "b": ["c"], "c": ["b"], "d": []})), ["b", "c"])

    def test_plain_code_is_let_through(self):
        self.assertEqual(faults("from roomweek.errors import NoName\n\n\ndef f(x):\n    return max(x, 1)\n"), [])


if __name__ == "__main__":
    unittest.main()
