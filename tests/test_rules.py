"""Tests of the package's files against the rules that can be counted."""

import ast
import inspect
import pathlib
import unittest

from measurehall import errors, machines

FOLDER = pathlib.Path(errors.__file__).parent
LIBRARY = ("heapq", "math", "itertools", "collections", "__future__")


def files():
    """The names and texts of the package's files."""
    for path in sorted(FOLDER.glob("**/*.py")):
        yield path.name, path.read_text(encoding="utf-8")


class Rules(unittest.TestCase):
    def test_the_folder_holds_nothing_else(self):
        found = [path.name for path in FOLDER.iterdir() if path.name != "__pycache__"]
        self.assertIn("__init__.py", found)
        for name in found:
            self.assertTrue(name.endswith(".py") and name == name.lower(), name)

    def test_characters_and_lines(self):
        for name, text in files():
            lines = text.split("\n")
            self.assertLessEqual(len(lines) - 1, 399, name)
            for line in lines:
                self.assertLessEqual(len(line), 120, (name, line))
                self.assertTrue(all(" " <= sign <= "~" for sign in line), (name, line))

    def test_functions_are_short(self):
        for name, text in files():
            for node in ast.walk(ast.parse(text)):
                if isinstance(node, ast.FunctionDef):
                    self.assertLessEqual(node.end_lineno - node.lineno + 1, 40, (name, node.name))

    def test_imports(self):
        for name, text in files():
            for node in ast.walk(ast.parse(text)):
                self.assertNotIsInstance(node, ast.Import, name)
                if isinstance(node, ast.ImportFrom):
                    self.assertEqual(node.level, 0, name)
                    self.assertIn(node.module.split(".")[0], LIBRARY + ("measurehall",), name)

    def test_no_floats_and_no_percent_sign_in_strings(self):
        for name, text in files():
            for node in ast.walk(ast.parse(text)):
                self.assertNotIsInstance(node, ast.Div, name)
                if isinstance(node, ast.Constant):
                    self.assertNotIsInstance(node.value, (float, complex), name)
                    if isinstance(node.value, str):
                        self.assertNotIn("%", node.value, name)


class Interface(unittest.TestCase):
    def test_answered(self):
        self.assertEqual(machines.answered.__module__, "measurehall.machines")
        told = inspect.signature(machines.answered).parameters
        self.assertEqual(list(told), ["machine", "question", "seed"])
        self.assertEqual(told["seed"].kind, inspect.Parameter.KEYWORD_ONLY)
        self.assertEqual(told["seed"].default, 0)


if __name__ == "__main__":
    unittest.main()
