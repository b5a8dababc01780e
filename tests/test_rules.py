"""Tests of the package's files against the rules that can be counted."""

import ast
import inspect
import pathlib
import unittest

from measurehall import errors, halls, machines, notes, tasks

FOLDER = pathlib.Path(errors.__file__).parent
LIBRARY = ("heapq", "math", "itertools", "collections", "__future__")


def files():
    """The names and texts of the package's files."""
    for path in sorted(FOLDER.glob("**/*.py")):
        yield path.name, path.read_text(encoding="utf-8")


class Rules(unittest.TestCase):
    def test_the_folder_holds_nothing_else(self):
        found = [path.name for path in FOLDER.iterdir() if path.name != "__pycache__"]
        self.assertIn("__init__.py", found)
        for name in found:
            self.assertTrue(name.endswith(".py") and name == name.lower(), name)

    def test_characters_and_lines(self):
        for name, text in files():
            lines = text.split("\n")
            self.assertLessEqual(len(lines) - 1, 399, name)
            for line in lines:
                self.assertLessEqual(len(line), 120, (name, line))
                self.assertTrue(all(" " <= sign <= "~" for sign in line), (name, line))

    def test_functions_are_short(self):
        for name, text in files():
            for node in ast.walk(ast.parse(text)):
                if isinstance(node, ast.FunctionDef):
                    self.assertLessEqual(node.end_lineno - node.lineno + 1, 40, (name, node.name))

    def test_imports(self):
        for name, text in files():
            for node in ast.walk(ast.parse(text)):
                self.assertNotIsInstance(node, ast.Import, name)
                if isinstance(node, ast.ImportFrom):
                    self.assertEqual(node.level, 0, name)
                    self.assertIn(node.module.split(".")[0], LIBRARY + ("measurehall",), name)

    def test_no_floats_and_no_percent_sign_in_strings(self):
        for name, text in files():
            for node in ast.walk(ast.parse(text)):
                self.assertNotIsInstance(node, ast.Div, name)
                if isinstance(node, ast.Constant):
                    self.assertNotIsInstance(node.value, (float, complex), name)
                    if isinstance(node.value, str):
                        self.assertNotIn("%", node.value, name)


class Interface(unittest.TestCase):
    def check_signature(self, function, places, names=()):
        """The function takes these by their places, and these by their names, a seed of 0 alone."""
        told = inspect.signature(function).parameters.values()
        self.assertEqual([part.name for part in told], list(places) + list(names), function)
        for part in told:
            if part.name in names:
                self.assertIs(part.kind, inspect.Parameter.KEYWORD_ONLY)
                self.assertEqual(part.default, 0)
            else:
                self.assertIs(part.kind, inspect.Parameter.POSITIONAL_OR_KEYWORD)
                self.assertIs(part.default, inspect.Parameter.empty)

    def test_functions(self):
        for module, name, places, names in (
            (machines, "answered", ("machine", "question"), ("seed",)),
            (notes, "written", ("machine",), ()), (notes, "read", ("text",), ()),
            (tasks, "right", ("machine", "task"), ("seed",)), (tasks, "score", ("machine", "task"), ("seed",)),
            (tasks, "heart", ("machine", "task"), ("seed",)), (halls, "led", ("deeds",), ()),
        ):
            function = vars(module)[name]
            self.assertTrue(inspect.isfunction(function), name)
            self.assertEqual(function.__module__, module.__name__)
            self.check_signature(function, places, names)

    def test_hall(self):
        self.assertTrue(inspect.isclass(halls.Hall))
        self.assertEqual(halls.Hall.__module__, "measurehall.halls")
        self.check_signature(halls.Hall, ())
        for name, places in (
            ("task", ("name", "task")), ("machine", ("name", "machine")), ("strike", ("number",)), ("clean", ()),
            ("parted", ()), ("ranks", ()), ("spread", ("name",)), ("shares", ("name",)), ("sure", ("share",)),
            ("page", ("number",)), ("stale", ("number",)), ("deeds", ()), ("deal", ("deeds",)),
            ("tell", ("machine", "task", "seed", "score")), ("publish", ()), ("holds", ("name",)),
            ("ahead", ("one", "other")), ("turned", ("one", "other")), ("is_open", ()),
        ):
            method = vars(halls.Hall)[name]
            self.assertTrue(inspect.isfunction(method), name)
            self.assertEqual(method.__module__, "measurehall.halls")
            self.check_signature(method, ("self",) + places)


if __name__ == "__main__":
    unittest.main()
