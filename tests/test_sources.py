"""What can be seen of the files without running them, and the examples of the README."""

import ast
import doctest
import unittest
from pathlib import Path

# The names of Python's library that the package may import.
LIBRARY = {"math": {"comb", "gcd"}, "itertools": {"combinations"}}
ROOT = Path(__file__).resolve().parent.parent
SOURCES = sorted((ROOT / "keysfelt").rglob("*.py"))


class SourcesTest(unittest.TestCase):
    def test_sizes_and_characters(self):
        for path in SOURCES:
            with self.subTest(path=path.name):
                text = path.read_text(encoding="utf-8")
                lines = text.split("\n")
                self.assertTrue(all(char == "\n" or " " <= char <= "~" for char in text))
                self.assertLessEqual(len(lines), 399)
                self.assertLessEqual(max(len(line) for line in lines), 120)

    def test_functions_are_small(self):
        for path in SOURCES:
            for node in ast.walk(ast.parse(path.read_text(encoding="utf-8"))):
                if isinstance(node, ast.FunctionDef):
                    with self.subTest(path=path.name, name=node.name):
                        self.assertLessEqual(node.end_lineno - node.lineno + 1, 40)

    def test_imports_come_from_the_package_or_are_allowed(self):
        for path in SOURCES:
            for node in ast.walk(ast.parse(path.read_text(encoding="utf-8"))):
                with self.subTest(path=path.name):
                    self.assertNotIsInstance(node, ast.Import)
                    if isinstance(node, ast.ImportFrom) and not node.module.startswith("keysfelt."):
                        self.assertLessEqual({name.name for name in node.names}, LIBRARY[node.module])
                        self.assertFalse(any(name.asname for name in node.names))

    def test_examples_of_the_readme(self):
        failed, tried = doctest.testfile(str(ROOT / "README.md"), module_relative=False)
        self.assertEqual(failed, 0)
        self.assertGreater(tried, 0)
