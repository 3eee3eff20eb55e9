"""What the package may draw on: its own files alone, so no clock, no chance and no files."""

import ast
import builtins
import pathlib
import unittest

PACKAGE = pathlib.Path(__file__).resolve().parent.parent / "roomweek"

ALLOWED = set("""
    len range enumerate zip min max sum abs sorted reversed int str bool list tuple dict set frozenset
    isinstance ord repr any all divmod Exception ValueError TypeError KeyError IndexError LookupError
    ZeroDivisionError ArithmeticError OverflowError RuntimeError NotImplementedError AttributeError
    StopIteration
""".split())

METHODS = ("__init__", "__eq__", "__repr__", "__str__", "__len__")

STATEMENTS = (
    ast.Assign, ast.AugAssign, ast.If, ast.While, ast.For, ast.Return, ast.Break, ast.Continue, ast.Pass,
    ast.Raise, ast.Try, ast.Expr, ast.FunctionDef, ast.ClassDef, ast.ImportFrom,
)


def node_faults(node):
    if isinstance(node, ast.stmt) and not isinstance(node, STATEMENTS):
        yield f"statement {type(node).__name__}"
    if isinstance(node, ast.ImportFrom):
        if node.level or not node.module.startswith("roomweek."):
            yield f"import from {node.module}"
        if any(alias.name == "*" for alias in node.names):
            yield "import of *"
    if isinstance(node, ast.Name):
        if node.id.startswith("_"):
            yield f"name {node.id}"
        if hasattr(builtins, node.id) and node.id not in ALLOWED:
            yield f"built-in {node.id}"
    if isinstance(node, ast.Attribute) and node.attr.startswith("_") and node.attr not in METHODS:
        yield f"attribute {node.attr}"
    if isinstance(node, ast.Constant) and isinstance(node.value, (float, complex, bytes)):
        yield f"value {node.value!r}"
    if isinstance(node, ast.FunctionDef):
        if node.end_lineno - node.lineno >= 40:
            yield f"long function {node.name}"
        if node.name.startswith("_") and node.name not in METHODS:
            yield f"function {node.name}"


def faults(source):
    found = [fault for node in ast.walk(ast.parse(source)) for fault in node_faults(node)]
    lines = source.split("\n")
    if len(lines) > 401:
        found.append("long file")
    if any(len(line) > 120 for line in lines):
        found.append("long line")
    if any(not " " <= sign <= "~" for line in lines for sign in line):
        found.append("foreign sign")
    return found


class Package(unittest.TestCase):
    def test_only_python_files_lie_in_it(self):
        names = sorted(path.name for path in PACKAGE.iterdir() if path.name != "__pycache__")
        self.assertIn("__init__.py", names)
        for name in names:
            self.assertRegex(name, r"\A[a-z0-9_]+\.py\Z")

    def test_each_file_draws_on_the_package_alone(self):
        for path in sorted(PACKAGE.glob("*.py")):
            self.assertEqual(faults(path.read_bytes().decode("utf-8")), [], path.name)


class TheCheckItself(unittest.TestCase):
    def test_clock_chance_and_files_are_found(self):
        for source in ("import time", "from random import choice", "from os import path", "import roomweek.spans",
                       "from . import spans", "open('x')", "print(1)", "input()", "__import__('time')",
                       "eval('1')", "().__class__", "global x", "x = 0.5", "#\t", "#" * 121, "\n" * 401,
                       "def f():\n" + "    pass\n" * 40):
            self.assertNotEqual(faults(source), [], source[:40])

    def test_plain_code_is_let_through(self):
        self.assertEqual(faults("from roomweek.errors import NoName\n\n\ndef f(x):\n    return max(x, 1)\n"), [])


if __name__ == "__main__":
    unittest.main()
