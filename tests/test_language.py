"""The rules of the Python subset that a test can check line by line."""

import ast
import re
import unittest
from pathlib import Path

PACKAGE = Path(__file__).resolve().parent.parent / "bestsets"
FILES = sorted(PACKAGE.glob("*.py"))

FORBIDDEN_WORDS = (
    "type", "typing", "enum", "Enum", "namedtuple", "NamedTuple", "dataclass", "abstractmethod", "global", "async",
    "register", "mro", "elements", "open", "input", "law", "eval", "exec", "globals", "locals", "vars", "frozenset",
)


class LanguageTest(unittest.TestCase):
    def test_the_package_is_one_folder_of_python_files(self):
        found = [path for path in PACKAGE.iterdir() if path.name != "__pycache__"]
        self.assertEqual(sorted(found), FILES)
        self.assertIn(PACKAGE / "__init__.py", FILES)
        for path in FILES:
            self.assertRegex(path.name, "^[a-z0-9_]+[.]py$")

    def test_lengths_and_characters(self):
        for path in FILES:
            text = path.read_bytes().decode("ascii")
            self.assertIsNone(re.search("[^ -~\n]", text), path.name)
            self.assertLessEqual(len(text.splitlines()), 399, path.name)
            for line in text.splitlines():
                self.assertLessEqual(len(line), 120, (path.name, line))

    def test_lengths_of_functions(self):
        for path, node in nodes():
            if isinstance(node, ast.FunctionDef):
                self.assertLessEqual(node.end_lineno - node.lineno + 1, 40, (path.name, node.name))

    def test_imports_name_files_of_the_package_or_the_library(self):
        library = ("heapq", "math", "itertools", "collections")
        for path, node in nodes():
            self.assertNotIsInstance(node, ast.Import, path.name)
            if isinstance(node, ast.ImportFrom):
                self.assertEqual(node.level, 0, path.name)
                self.assertTrue(node.module in library or node.module.startswith("bestsets."), (path.name, node.module))
                self.assertNotIn("*", [alias.name for alias in node.names], path.name)

    def test_statements_and_values_outside_the_subset(self):
        forbidden = (
            ast.Global, ast.AsyncFunctionDef, ast.AsyncFor, ast.AsyncWith, ast.Await, ast.Div, ast.MatMult, ast.TryStar,
        )
        for path, node in nodes():
            self.assertNotIsInstance(node, forbidden, path.name)
            if isinstance(node, ast.Constant):
                self.assertNotIsInstance(node.value, (float, complex), (path.name, node.lineno))

    def test_names_outside_the_subset(self):
        for path, node in nodes():
            for field in ("id", "attr", "name", "arg"):
                self.assertNotIn(getattr(node, field, None), FORBIDDEN_WORDS, path.name)

    def test_a_module_contains_only_definitions_and_plain_values(self):
        for path in FILES:
            for node in ast.parse(path.read_text()).body:
                allowed = (ast.ImportFrom, ast.FunctionDef, ast.ClassDef, ast.Assign)
                self.assertTrue(isinstance(node, allowed) or is_docstring(node), (path.name, node.lineno))


def nodes():
    """All nodes of all files, each with its file."""
    return [(path, node) for path in FILES for node in ast.walk(ast.parse(path.read_text()))]


def is_docstring(node):
    """Whether it is a string on its own."""
    return isinstance(node, ast.Expr) and isinstance(node.value, ast.Constant) and isinstance(node.value.value, str)


if __name__ == "__main__":
    unittest.main()
