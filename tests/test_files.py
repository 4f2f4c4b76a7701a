"""The form of the package's files: what the language asks of each, as far as it is plainly seen."""

import ast
import os
import unittest

PACKAGE = os.path.join(os.path.dirname(os.path.dirname(os.path.abspath(__file__))), "twinsum")


def texts():
    """The text of each file of the package, by its name."""
    found = {}
    for name in sorted(os.listdir(PACKAGE)):
        if name != "__pycache__":
            with open(os.path.join(PACKAGE, name), "rb") as file:
                found[name] = file.read()
    return found


class Files(unittest.TestCase):
    def test_the_folder_has_python_files_only(self):
        for name in texts():
            stem, end = os.path.splitext(name)
            self.assertEqual(end, ".py", name)
            self.assertTrue(stem.replace("_", "").isalnum() and stem == stem.lower(), name)

    def test_signs_and_sizes(self):
        for name, text in texts().items():
            self.assertTrue(all(code == 10 or 32 <= code <= 126 for code in text), name)
            rows = text.decode("ascii").split("\n")
            self.assertLessEqual(len(rows), 399, name)
            self.assertLessEqual(max(len(row) for row in rows), 120, name)

    def test_functions_are_small(self):
        for name, text in texts().items():
            for node in ast.walk(ast.parse(text)):
                if isinstance(node, ast.FunctionDef):
                    self.assertLessEqual(node.end_lineno - node.lineno + 1, 40, (name, node.name))

    def test_imports_are_of_the_package(self):
        for name, text in texts().items():
            for node in ast.walk(ast.parse(text)):
                self.assertNotIsInstance(node, ast.Import, name)
                if isinstance(node, ast.ImportFrom):
                    self.assertEqual(node.level, 0, name)
                    self.assertEqual(node.module.split(".")[0], "twinsum", name)
