"""Holds the package against those rules of its language that can be seen in its files one by one."""

import ast
import builtins
import re
import unittest
from pathlib import Path

PACKAGE = Path(__file__).resolve().parent.parent / "rimhouse"
FILES = sorted(PACKAGE.rglob("*.py"))

OWN_NAMES = set(
    "len range enumerate zip min max sum abs sorted reversed int str bool bytes list tuple dict set frozenset "
    "isinstance ord repr any all divmod Exception ValueError TypeError KeyError IndexError LookupError "
    "ZeroDivisionError ArithmeticError OverflowError RuntimeError NotImplementedError AttributeError "
    "StopIteration".split()
)
OWN_METHODS = {"__init__", "__eq__", "__repr__", "__str__", "__len__"}
WORDS_LEFT_OUT = set(
    "type typing typing_extensions enum Enum IntEnum StrEnum Flag IntFlag Generic Protocol ABC ABCMeta namedtuple "
    "NamedTuple TypedDict TYPE_CHECKING abstractmethod".split()
)
# Methods of Python's own values that may be called.
METHODS = set(
    "append clear copy count endswith extend find get index insert isalnum isalpha isdigit islower isspace isupper "
    "items join keys ljust lower lstrip partition pop remove replace reverse rfind rjust rpartition rsplit rstrip "
    "setdefault split splitlines startswith strip update upper values zfill bit_length sort add discard".split()
)
# Keywords that may stand at calls of Python's own.
KEYWORDS = {
    "sorted": {"key", "reverse"}, "min": {"key", "default"}, "max": {"key", "default"}, "sum": {"start"},
    "enumerate": {"start"}, "zip": {"strict"},
}
# What is walked on the spot, and what may hold it besides a walk.
WALKED = {"zip", "enumerate", "reversed", "range"}
HOLDERS = {"list", "tuple", "dict", "sorted", "sum", "any", "all", "enumerate", "zip", "bytes", "min", "max", "reversed"}
FORMS_LEFT_OUT = (
    ast.With, ast.AsyncWith, ast.AsyncFor, ast.AsyncFunctionDef, ast.Await, ast.Match, ast.Global, ast.Nonlocal,
    ast.Yield, ast.YieldFrom, ast.GeneratorExp, ast.NamedExpr, ast.Div, ast.MatMult, ast.Import,
)


def nodes(path):
    return list(ast.walk(ast.parse(path.read_text(encoding="ascii"))))


def bound_names(node):
    """The names that a part of a file brings in."""
    if isinstance(node, ast.Name) and isinstance(node.ctx, ast.Store):
        return [node.id]
    if isinstance(node, (ast.FunctionDef, ast.ClassDef)):
        return [node.name]
    if isinstance(node, ast.arg):
        return [node.arg]
    if isinstance(node, ast.ImportFrom):
        return [one.asname or one.name for one in node.names]
    return []


def bound_names_of_top(node):
    """The names that a row of a file's top defines, imports left out."""
    if isinstance(node, ast.Assign):
        return [name for target in node.targets for name in bound_names(target)]
    return [] if isinstance(node, ast.ImportFrom) else bound_names(node)


def classes():
    return [node for path in FILES for node in nodes(path) if isinstance(node, ast.ClassDef)]


def values_of_objects(node):
    """The names of the values that a part of a class gives."""
    return {
        one.attr for one in ast.walk(node) if isinstance(one, ast.Attribute) and isinstance(one.ctx, ast.Store)
    }


def walked_places(node):
    """What a part of a file walks on the spot."""
    if isinstance(node, (ast.For, ast.comprehension)):
        return [node.iter]
    if isinstance(node, ast.Call) and isinstance(node.func, ast.Name) and node.func.id in HOLDERS:
        return node.args
    if isinstance(node, ast.Compare):
        return node.comparators
    return []


class Language(unittest.TestCase):
    def test_nothing_but_files_of_the_program(self):
        self.assertIn(PACKAGE / "__init__.py", FILES)
        for path in sorted(PACKAGE.rglob("*")):
            if "__pycache__" not in path.parts and path.is_file():
                with self.subTest(str(path)):
                    self.assertRegex(path.name, r"^([a-z][a-z0-9_]*|__init__|__main__)\.py$")

    def test_signs_and_sizes(self):
        for path in FILES:
            rows = path.read_bytes().decode("ascii").split("\n")
            self.assertLessEqual(len(rows), 401, path)
            for at, row in enumerate(rows, start=1):
                with self.subTest(path=path.name, row=at):
                    self.assertLessEqual(len(row), 120)
                    self.assertRegex(row, r"^[ -~]*$")
            for node in nodes(path):
                if isinstance(node, ast.FunctionDef):
                    self.assertLessEqual(node.end_lineno - node.lineno + 1, 40, f"{path.name}: {node.name}")

    def test_words_left_out(self):
        for path in FILES:
            with self.subTest(path.name):
                self.assertEqual(WORDS_LEFT_OUT & set(re.findall(r"\w+", path.read_text())), set())

    def test_imports_are_of_the_package_alone(self):
        for path in FILES:
            for node in nodes(path):
                if isinstance(node, ast.ImportFrom):
                    with self.subTest(path=path.name, row=node.lineno):
                        self.assertEqual(node.level, 0)
                        self.assertRegex(node.module, r"^rimhouse\.[a-z_]+$|^__future__$")
                        self.assertNotIn("*", [one.name for one in node.names])

    def test_forms_left_out(self):
        for path in FILES:
            for node in nodes(path):
                with self.subTest(path=path.name, row=getattr(node, "lineno", None), form=type(node).__name__):
                    self.assertNotIsInstance(node, FORMS_LEFT_OUT)
                    if isinstance(node, (ast.For, ast.While)):
                        self.assertEqual(node.orelse, [])
                    if isinstance(node, (ast.FunctionDef, ast.ClassDef)):
                        self.assertEqual(node.decorator_list, [])
                    if isinstance(node, ast.arguments):
                        self.assertEqual((node.vararg, node.kwarg, node.posonlyargs), (None, None, []))
                    if isinstance(node, ast.Constant):
                        self.assertNotIsInstance(node.value, (float, complex))
                        if isinstance(node.value, str):
                            self.assertNotIn("%", node.value)
                    if isinstance(node, ast.BinOp) and isinstance(node.op, ast.Pow):
                        self.assertIsInstance(node.right, ast.Constant)
                        self.assertIn(node.right.value, range(65))

    def test_names(self):
        for path in FILES:
            for node in nodes(path):
                if isinstance(node, ast.Name) and hasattr(builtins, node.id):
                    with self.subTest(path=path.name, row=node.lineno, name=node.id):
                        self.assertIn(node.id, OWN_NAMES)
                for name in bound_names(node):
                    if name not in OWN_METHODS:
                        with self.subTest(path=path.name, row=node.lineno, name=name):
                            self.assertFalse(name.startswith("_") or hasattr(builtins, name))

    def test_no_two_files_draw_from_one_another(self):
        drawn = {
            path.stem: {one.module.split(".")[-1] for one in nodes(path) if isinstance(one, ast.ImportFrom)}
            for path in FILES
        }
        while drawn:
            free = [name for name, others in drawn.items() if not others & set(drawn)]
            self.assertNotEqual(free, [], f"these draw from one another: {sorted(drawn)}")
            for name in free:
                del drawn[name]

    def test_names_are_drawn_from_where_they_stand(self):
        stand = {
            path.stem: {name for node in ast.parse(path.read_text()).body for name in bound_names_of_top(node)}
            for path in FILES
        }
        for path in FILES:
            for node in nodes(path):
                if isinstance(node, ast.ImportFrom):
                    for one in node.names:
                        with self.subTest(path=path.name, name=one.name):
                            self.assertIn(one.name, stand[node.module.split(".")[-1]])

    def test_no_import_without_use(self):
        for path in FILES:
            drawn = [one.name for node in nodes(path) if isinstance(node, ast.ImportFrom) for one in node.names]
            used = {node.id for node in nodes(path) if isinstance(node, ast.Name)}
            with self.subTest(path.name):
                self.assertEqual([name for name in drawn if name not in used], [])

    def test_no_name_hides_a_class_or_an_import(self):
        for path in FILES:
            tops = [
                name for node in nodes(path) if isinstance(node, (ast.ImportFrom, ast.ClassDef))
                for name in bound_names(node)
            ]
            self.assertEqual(len(tops), len(set(tops)), path)
            for node in nodes(path):
                if isinstance(node, (ast.Name, ast.arg)):
                    for name in bound_names(node):
                        with self.subTest(path=path.name, row=node.lineno, name=name):
                            self.assertNotIn(name, tops)

    def test_calls(self):
        own = {one.name for node in classes() for one in node.body if isinstance(one, ast.FunctionDef)}
        for path in FILES:
            for node in nodes(path):
                if not isinstance(node, ast.Call):
                    continue
                with self.subTest(path=path.name, row=node.lineno):
                    words = {word.arg for word in node.keywords}
                    if isinstance(node.func, ast.Attribute):
                        self.assertIn(node.func.attr, METHODS | own | OWN_METHODS)
                        self.assertEqual(words, set())
                    elif isinstance(node.func, ast.Name) and node.func.id in OWN_NAMES:
                        self.assertLessEqual(words, KEYWORDS.get(node.func.id, set()))

    def test_methods_and_values_of_objects(self):
        methods = {one.name for node in classes() for one in node.body if isinstance(one, ast.FunctionDef)}
        values = {name for node in classes() for name in values_of_objects(node)}
        self.assertEqual(methods & values, set())
        asked = {one.attr for path in FILES for one in nodes(path) if isinstance(one, ast.Attribute)}
        self.assertEqual(asked - methods - values - METHODS, set())
        for node in classes():
            for one in node.body:
                with self.subTest(row=one.lineno, of=node.name):
                    self.assertIsInstance(one, (ast.FunctionDef, ast.Expr))

    def test_is_and_what_is_walked(self):
        for path in FILES:
            parts = nodes(path)
            walked = {id(place) for node in parts for place in walked_places(node)}
            for node in parts:
                with self.subTest(path=path.name, row=getattr(node, "lineno", None)):
                    if isinstance(node, ast.Compare):
                        for sign, other in zip(node.ops, node.comparators):
                            if isinstance(sign, (ast.Is, ast.IsNot)):
                                self.assertIsInstance(other, ast.Constant)
                                self.assertIn(other.value, (None, True, False))
                    if isinstance(node, ast.Call) and isinstance(node.func, ast.Name) and node.func.id in WALKED:
                        self.assertIn(id(node), walked)


if __name__ == "__main__":
    unittest.main()
