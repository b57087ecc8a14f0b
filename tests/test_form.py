"""Point 1's last row, and those rules of the language that can be read off the files."""

import ast
import builtins
import pathlib
import unittest

PACKAGE = pathlib.Path(__file__).resolve().parent.parent / "finebook"
FILES = ("__init__.py", "choosing.py", "errors.py", "jobs.py")
ALLOWED = (
    "len range enumerate zip min max sum abs sorted reversed int str bool list tuple dict set frozenset "
    "isinstance ord repr any all divmod ValueError KeyError"
).split()


def trees():
    for name in FILES:
        text = (PACKAGE / name).read_text(encoding="utf-8")
        yield name, text, ast.parse(text)


class Form(unittest.TestCase):
    def test_the_files_of_the_package(self):
        found = sorted(path.name for path in PACKAGE.iterdir() if path.name != "__pycache__")
        self.assertEqual(found, sorted(FILES))

    def test_nothing_but_the_package_is_imported(self):
        for name, text, tree in trees():
            for node in ast.walk(tree):
                self.assertNotIsInstance(node, ast.Import, name)
                if isinstance(node, ast.ImportFrom):
                    self.assertEqual(node.level, 0, name)
                    self.assertTrue(node.module.startswith("finebook."), (name, node.module))

    def test_only_allowed_names_of_python(self):
        for name, text, tree in trees():
            for node in ast.walk(tree):
                if isinstance(node, ast.Name) and hasattr(builtins, node.id):
                    self.assertIn(node.id, ALLOWED, (name, node.lineno))

    def test_rows_and_signs(self):
        for name, text, tree in trees():
            self.assertTrue(all(sign == "\n" or " " <= sign <= "~" for sign in text), name)
            self.assertLessEqual(len(text.splitlines()), 400, name)
            self.assertTrue(all(len(row) <= 120 for row in text.splitlines()), name)

    def test_functions_are_small(self):
        for name, text, tree in trees():
            for node in ast.walk(tree):
                if isinstance(node, ast.FunctionDef):
                    self.assertLessEqual(node.end_lineno - node.lineno + 1, 40, (name, node.name))
                    self.assertEqual(node.decorator_list, [], (name, node.name))
