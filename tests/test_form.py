"""The form of the package's files, as far as it is plainly counted."""

import ast
from pathlib import Path
from unittest import TestCase

import bedtwos

PACKAGE = Path(bedtwos.__file__).parent
FILES = sorted(PACKAGE.glob("*.py"))


class FormTest(TestCase):
    def test_the_folder_has_nothing_but_files_of_the_program(self):
        others = [path.name for path in PACKAGE.iterdir() if path not in FILES and path.name != "__pycache__"]
        self.assertEqual([], others)

    def test_characters_and_sizes(self):
        for path in FILES:
            text = path.read_bytes().decode("ascii")
            lines = text.split("\n")
            self.assertLessEqual(len(lines), 400, path.name)
            self.assertLessEqual(max(map(len, lines)), 120, path.name)
            self.assertTrue(text.replace("\n", " ").isprintable(), path.name)

    def test_functions_are_small(self):
        for path in FILES:
            for node in ast.walk(ast.parse(path.read_text("ascii"))):
                if isinstance(node, ast.FunctionDef):
                    self.assertLessEqual(node.end_lineno - node.lineno + 1, 40, node.name)

    def test_imports_are_of_the_package_and_what_it_may_have_of_the_library(self):
        for path in FILES:
            for node in ast.walk(ast.parse(path.read_text("ascii"))):
                self.assertNotIsInstance(node, ast.Import, path.name)
                if isinstance(node, ast.ImportFrom):
                    self.assertEqual(0, node.level, path.name)
                    names = [(node.module, alias.name) for alias in node.names]
                    if names != [("itertools", "permutations")]:
                        self.assertTrue(node.module.startswith("bedtwos."), path.name)
