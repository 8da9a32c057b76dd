"""Point 1 holds for the package as a whole: no clock, chance or files; and the code keeps its plain form."""

import ast
import builtins
import pathlib
import unittest

PACKAGE = pathlib.Path(__file__).resolve().parent.parent / "marshyear"

ALLOWED_NAMES = """
    len range enumerate zip min max sum abs sorted reversed int str bool list tuple dict set frozenset isinstance
    ord repr any all divmod Exception ValueError TypeError KeyError IndexError LookupError ZeroDivisionError
    ArithmeticError OverflowError RuntimeError NotImplementedError AttributeError StopIteration
""".split()

CHANGING_METHODS = "append clear extend insert pop remove reverse setdefault sort update".split()


def package_files():
    return sorted(path for path in PACKAGE.rglob("*.py"))


def parsed(path):
    return ast.parse(path.read_text(encoding="utf-8"))


class Package(unittest.TestCase):
    def test_files_are_there(self):
        names = [path.name for path in package_files()]
        for name in ("__init__.py", "errors.py", "years.py", "days.py", "moving.py", "notes.py"):
            self.assertIn(name, names)

    def test_nothing_but_modules_lies_in_it(self):
        for path in PACKAGE.iterdir():
            self.assertTrue(path.suffix == ".py" or path.name == "__pycache__", path)

    def test_only_own_modules_are_imported(self):
        for path in package_files():
            for node in ast.walk(parsed(path)):
                self.assertNotIsInstance(node, ast.Import, path)
                if isinstance(node, ast.ImportFrom):
                    self.assertEqual(node.level, 0, path)
                    self.assertTrue(node.module.startswith("marshyear."), path)

    def test_only_plain_names_of_python_are_used(self):
        for path in package_files():
            for node in ast.walk(parsed(path)):
                if isinstance(node, ast.Name) and hasattr(builtins, node.id):
                    self.assertIn(node.id, ALLOWED_NAMES, path)

    def test_no_float_and_no_true_division(self):
        for path in package_files():
            for node in ast.walk(parsed(path)):
                self.assertNotIsInstance(node, ast.Div, path)
                if isinstance(node, ast.Constant):
                    self.assertNotIsInstance(node.value, (float, complex, bytes), path)

    def test_nothing_handed_in_can_be_changed(self):
        # Only names are given values, and no method that changes a value in place is called.
        for path in package_files():
            for node in ast.walk(parsed(path)):
                if isinstance(node, (ast.Attribute, ast.Subscript)):
                    self.assertIsInstance(node.ctx, ast.Load, (path, node.lineno))
                if isinstance(node, ast.Attribute):
                    self.assertNotIn(node.attr, CHANGING_METHODS, (path, node.lineno))

    def test_signs_and_sizes(self):
        for path in package_files():
            rows = path.read_text(encoding="utf-8").split("\n")
            self.assertLessEqual(len(rows), 400, path)
            for row in rows:
                self.assertLessEqual(len(row), 120, (path, row))
                self.assertTrue(all(" " <= sign <= "~" for sign in row), (path, row))
            for node in ast.walk(parsed(path)):
                if isinstance(node, ast.FunctionDef):
                    self.assertLessEqual(node.end_lineno - node.lineno + 1, 40, (path, node.name))
