"""Holds the package against those rules of its language that can be seen in its files one by one."""

import ast
import builtins
import re
import unittest
from pathlib import Path

PACKAGE = Path(__file__).resolve().parent.parent / "rimhouse"
FILES = sorted(PACKAGE.rglob("*.py"))

OWN_NAMES = set(
    "len range enumerate zip min max sum abs sorted reversed int str bool bytes list tuple dict set frozenset "
    "isinstance ord repr any all divmod Exception ValueError TypeError KeyError IndexError LookupError "
    "ZeroDivisionError ArithmeticError OverflowError RuntimeError NotImplementedError AttributeError "
    "StopIteration".split()
)
OWN_METHODS = {"__init__", "__eq__", "__repr__", "__str__", "__len__"}
WORDS_LEFT_OUT = set(
    "type typing typing_extensions enum Enum IntEnum StrEnum Flag IntFlag Generic Protocol ABC ABCMeta namedtuple "
    "NamedTuple TypedDict TYPE_CHECKING abstractmethod".split()
)
FORMS_LEFT_OUT = (
    ast.With, ast.AsyncWith, ast.AsyncFor, ast.AsyncFunctionDef, ast.Await, ast.Match, ast.Global, ast.Nonlocal,
    ast.Yield, ast.YieldFrom, ast.GeneratorExp, ast.NamedExpr, ast.Div, ast.MatMult, ast.Import,
)


def nodes(path):
    return list(ast.walk(ast.parse(path.read_text(encoding="ascii"))))


def bound_names(node):
    """The names that a part of a file brings in."""
    if isinstance(node, ast.Name) and isinstance(node.ctx, ast.Store):
        return [node.id]
    if isinstance(node, (ast.FunctionDef, ast.ClassDef)):
        return [node.name]
    if isinstance(node, ast.arg):
        return [node.arg]
    if isinstance(node, ast.ImportFrom):
        return [one.asname or one.name for one in node.names]
    return []


class Language(unittest.TestCase):
    def test_nothing_but_files_of_the_program(self):
        self.assertIn(PACKAGE / "__init__.py", FILES)
        for path in sorted(PACKAGE.rglob("*")):
            if "__pycache__" not in path.parts and path.is_file():
                with self.subTest(str(path)):
                    self.assertRegex(path.name, r"^([a-z][a-z0-9_]*|__init__|__main__)\.py$")

    def test_signs_and_sizes(self):
        for path in FILES:
            rows = path.read_bytes().decode("ascii").split("\n")
            self.assertLessEqual(len(rows), 401, path)
            for at, row in enumerate(rows, start=1):
                with self.subTest(path=path.name, row=at):
                    self.assertLessEqual(len(row), 120)
                    self.assertRegex(row, r"^[ -~]*$")
            for node in nodes(path):
                if isinstance(node, ast.FunctionDef):
                    self.assertLessEqual(node.end_lineno - node.lineno + 1, 40, f"{path.name}: {node.name}")

    def test_words_left_out(self):
        for path in FILES:
            with self.subTest(path.name):
                self.assertEqual(WORDS_LEFT_OUT & set(re.findall(r"\w+", path.read_text())), set())

    def test_imports_are_of_the_package_alone(self):
        for path in FILES:
            for node in nodes(path):
                if isinstance(node, ast.ImportFrom):
                    with self.subTest(path=path.name, row=node.lineno):
                        self.assertEqual(node.level, 0)
                        self.assertRegex(node.module, r"^rimhouse\.[a-z_]+$|^__future__$")
                        self.assertNotIn("*", [one.name for one in node.names])

    def test_forms_left_out(self):
        for path in FILES:
            for node in nodes(path):
                with self.subTest(path=path.name, row=getattr(node, "lineno", None), form=type(node).__name__):
                    self.assertNotIsInstance(node, FORMS_LEFT_OUT)
                    if isinstance(node, (ast.For, ast.While)):
                        self.assertEqual(node.orelse, [])
                    if isinstance(node, (ast.FunctionDef, ast.ClassDef)):
                        self.assertEqual(node.decorator_list, [])
                    if isinstance(node, ast.arguments):
                        self.assertEqual((node.vararg, node.kwarg, node.posonlyargs), (None, None, []))
                    if isinstance(node, ast.Constant):
                        self.assertNotIsInstance(node.value, (float, complex))
                        if isinstance(node.value, str):
                            self.assertNotIn("%", node.value)
                    if isinstance(node, ast.BinOp) and isinstance(node.op, ast.Pow):
                        self.assertIsInstance(node.right, ast.Constant)
                        self.assertIn(node.right.value, range(65))

    def test_names(self):
        for path in FILES:
            for node in nodes(path):
                if isinstance(node, ast.Name) and hasattr(builtins, node.id):
                    with self.subTest(path=path.name, row=node.lineno, name=node.id):
                        self.assertIn(node.id, OWN_NAMES)
                for name in bound_names(node):
                    if name not in OWN_METHODS:
                        with self.subTest(path=path.name, row=node.lineno, name=name):
                            self.assertFalse(name.startswith("_") or hasattr(builtins, name))


if __name__ == "__main__":
    unittest.main()
