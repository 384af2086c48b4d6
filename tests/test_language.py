"""The rules of the Python subset that a test can check line by line."""

import ast
import builtins
import re
import unittest
from pathlib import Path

PACKAGE = Path(__file__).resolve().parent.parent / "bestsets"
FILES = sorted(PACKAGE.glob("*.py"))

FORBIDDEN_WORDS = (
    "type", "typing", "enum", "Enum", "namedtuple", "NamedTuple", "dataclass", "abstractmethod", "global", "async",
    "register", "mro", "elements", "open", "input", "law", "eval", "exec", "globals", "locals", "vars", "frozenset",
)

BUILTINS = (
    "len range enumerate zip min max sum abs sorted reversed int str bool bytes list tuple dict set isinstance ord "
    "repr any all divmod pow map iter next super property staticmethod classmethod True False None NotImplemented "
    "Exception ValueError TypeError KeyError IndexError LookupError ZeroDivisionError ArithmeticError OverflowError RuntimeError "
    "NotImplementedError AttributeError StopIteration"
).split()

METHODS = (
    "append clear copy count endswith extend find get index insert isalnum isalpha isdigit islower isspace isupper "
    "items join keys ljust lower lstrip partition pop remove replace reverse rfind rjust rpartition rsplit rstrip "
    "setdefault split splitlines startswith strip update upper values zfill bit_length add discard sort __init__"
).split()


class LanguageTest(unittest.TestCase):
    def test_the_package_is_one_folder_of_python_files(self):
        found = [path for path in PACKAGE.iterdir() if path.name != "__pycache__"]
        self.assertEqual(sorted(found), FILES)
        self.assertIn(PACKAGE / "__init__.py", FILES)
        for path in FILES:
            self.assertRegex(path.name, "^[a-z0-9_]+[.]py$")

    def test_lengths_and_characters(self):
        for path in FILES:
            text = path.read_bytes().decode("ascii")
            self.assertIsNone(re.search("[^ -~\n]", text), path.name)
            self.assertLessEqual(len(text.splitlines()), 399, path.name)
            for line in text.splitlines():
                self.assertLessEqual(len(line), 120, (path.name, line))

    def test_lengths_of_functions(self):
        for path, node in nodes():
            if isinstance(node, ast.FunctionDef):
                self.assertLessEqual(node.end_lineno - node.lineno + 1, 40, (path.name, node.name))

    def test_imports_name_files_of_the_package_or_the_library(self):
        library = ("heapq", "math", "itertools", "collections")
        for path, node in nodes():
            self.assertNotIsInstance(node, ast.Import, path.name)
            if isinstance(node, ast.ImportFrom):
                self.assertEqual(node.level, 0, path.name)
                self.assertTrue(node.module in library or node.module.startswith("bestsets."), (path.name, node.module))
                self.assertNotIn("*", [alias.name for alias in node.names], path.name)

    def test_statements_and_values_outside_the_subset(self):
        forbidden = (
            ast.Global, ast.AsyncFunctionDef, ast.AsyncFor, ast.AsyncWith, ast.Await, ast.Div, ast.MatMult, ast.TryStar,
        )
        for path, node in nodes():
            self.assertNotIsInstance(node, forbidden, path.name)
            if isinstance(node, ast.Constant):
                self.assertNotIsInstance(node.value, (float, complex), (path.name, node.lineno))

    def test_names_outside_the_subset(self):
        for path, node in nodes():
            for field in ("id", "attr", "name", "arg"):
                self.assertNotIn(getattr(node, field, None), FORBIDDEN_WORDS, path.name)

    def test_builtins_outside_the_subset(self):
        for path, node in nodes():
            if isinstance(node, ast.Name) and hasattr(builtins, node.id):
                self.assertIn(node.id, BUILTINS, (path.name, node.lineno))
                self.assertIsInstance(node.ctx, ast.Load, (path.name, node.lineno))
            if isinstance(node, (ast.FunctionDef, ast.ClassDef)):
                found = hasattr(builtins, node.name) and node.name != "__init__"
                self.assertFalse(found, (path.name, node.lineno))
            if isinstance(node, ast.arg):
                self.assertFalse(hasattr(builtins, node.arg), (path.name, node.lineno))

    def test_methods_are_own_ones_or_in_the_subset(self):
        own = [node.name for _, node in nodes() if isinstance(node, ast.FunctionDef)]
        for path, node in nodes():
            if isinstance(node, ast.Call) and isinstance(node.func, ast.Attribute):
                self.assertIn(node.func.attr, METHODS + own, (path.name, node.lineno))

    def test_strings_without_signs_outside_the_subset(self):
        for path, node in nodes():
            if isinstance(node, ast.Constant) and isinstance(node.value, str):
                self.assertNotIn("%", node.value, (path.name, node.lineno))
                self.assertFalse(node.value.endswith(("._", ".__")), (path.name, node.lineno))

    def test_names_are_bound_once_in_a_file(self):
        for path in FILES:
            names = []
            for node in ast.parse(path.read_text()).body:
                if isinstance(node, ast.ImportFrom):
                    names += [alias.asname or alias.name for alias in node.names]
                elif isinstance(node, ast.Assign):
                    names += [target.id for target in node.targets]
                elif isinstance(node, (ast.FunctionDef, ast.ClassDef)):
                    names.append(node.name)
            self.assertEqual(len(names), len(set(names)), path.name)

    def test_a_module_contains_only_definitions_and_plain_values(self):
        for path in FILES:
            for node in ast.parse(path.read_text()).body:
                allowed = (ast.ImportFrom, ast.FunctionDef, ast.ClassDef, ast.Assign)
                self.assertTrue(isinstance(node, allowed) or is_docstring(node), (path.name, node.lineno))


def nodes():
    """All nodes of all files, each with its file."""
    return [(path, node) for path in FILES for node in ast.walk(ast.parse(path.read_text()))]


def is_docstring(node):
    """Whether it is a string on its own."""
    return isinstance(node, ast.Expr) and isinstance(node.value, ast.Constant) and isinstance(node.value.value, str)


if __name__ == "__main__":
    unittest.main()
