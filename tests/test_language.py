"""The rules of the language that can be checked by reading the files of the package."""

import ast
import builtins
import pathlib
import re
import unittest

PACKAGE = pathlib.Path(__file__).resolve().parent.parent / "fillorder"
FILES = sorted(path for path in PACKAGE.rglob("*") if "__pycache__" not in path.parts)
BARRED = re.compile(
    r"\b(type|typing|typing_extensions|enum|Enum|IntEnum|StrEnum|Flag|IntFlag|Generic|Protocol|ABC|ABCMeta|namedtuple"
    r"|NamedTuple|TypedDict|TYPE_CHECKING|abstractmethod)\b|dataclass|overload|contextmanager")
SPECIAL = {"__init__", "__eq__", "__len__"}


def named(node):
    """Return the name that a node of the tree binds or reads, if any."""
    for field in ("name", "id", "attr", "arg"):
        name = getattr(node, field, None)
        if isinstance(name, str):
            return name
    return ""


def each_node():
    """Return all nodes of the trees of all files."""
    return [node for path in FILES for node in ast.walk(ast.parse(path.read_text("ascii")))]


class TestLanguage(unittest.TestCase):
    def test_only_plain_python_files(self):
        for path in FILES:
            self.assertRegex(path.name, r"^[a-z0-9_]+\.py$")

    def test_characters_and_sizes(self):
        for path in FILES:
            with self.subTest(file=path.name):
                text = path.read_text("ascii")
                self.assertRegex(text, r"\A[ -~\n]*\Z")
                self.assertLessEqual(len(text.splitlines()), 399)
                self.assertLessEqual(max(map(len, text.splitlines())), 120)

    def test_barred_words(self):
        for path in FILES:
            with self.subTest(file=path.name):
                self.assertIsNone(BARRED.search(path.read_text("ascii")))

    def test_functions_are_short(self):
        for node in each_node():
            if isinstance(node, ast.FunctionDef):
                self.assertLessEqual(node.end_lineno - node.lineno + 1, 40, node.name)

    def test_imports_are_from_the_package(self):
        for node in each_node():
            self.assertNotIsInstance(node, ast.Import)
            if isinstance(node, ast.ImportFrom):
                self.assertRegex(node.module, r"^fillorder\.[a-z]+$")

    def test_no_name_begins_with_an_underscore(self):
        for node in each_node():
            self.assertFalse(named(node).startswith("_") and named(node) not in SPECIAL, named(node))

    def test_no_generator_expressions(self):
        # Beside classes with __eq__, any, all, sum and the like take lists.
        for node in each_node():
            self.assertNotIsInstance(node, ast.GeneratorExp)

    def test_is_only_with_constants(self):
        for node in each_node():
            if isinstance(node, ast.Compare) and isinstance(node.ops[0], (ast.Is, ast.IsNot)):
                self.assertIn(ast.unparse(node.comparators[0]), ("None", "True", "False"))

    def test_no_builtin_is_bound(self):
        for node in each_node():
            bound = isinstance(node, (ast.FunctionDef, ast.ClassDef, ast.arg))
            if bound or isinstance(getattr(node, "ctx", None), ast.Store):
                self.assertNotIn(named(node), dir(builtins))

    def test_no_name_is_a_method_and_an_attribute(self):
        functions = {node.name for node in each_node() if isinstance(node, ast.FunctionDef)}
        stored = {node.attr for node in each_node()
                  if isinstance(node, ast.Attribute) and isinstance(node.ctx, ast.Store)}
        self.assertEqual(functions & stored, set())

    def test_no_floats_and_no_division(self):
        for node in each_node():
            self.assertNotIsInstance(node, ast.Div)
            self.assertNotIsInstance(getattr(node, "value", None), float)


if __name__ == "__main__":
    unittest.main()
