"""The limits of the language rules that a glance at the files can miss."""

import ast
import pathlib
import unittest

PACKAGE = pathlib.Path(__file__).resolve().parent.parent / "haulropes"
LIBRARY = ("heapq", "math", "itertools", "collections")


class LanguageTest(unittest.TestCase):
    def files(self):
        found = sorted(path for path in PACKAGE.rglob("*") if path.is_file() and "__pycache__" not in path.parts)
        self.assertGreater(len(found), 0)
        return found

    def test_only_python_files(self):
        for path in self.files():
            self.assertEqual(path.suffix, ".py")
            self.assertNotRegex(path.name, "^(test|law_|site|conftest)")

    def test_lines_and_characters(self):
        for path in self.files():
            text = path.read_text(encoding="utf-8")
            rows = text.split("\n")
            self.assertLessEqual(len(rows), 400, path)
            for row in rows:
                self.assertLessEqual(len(row), 120, path)
                self.assertTrue(all(" " <= letter <= "~" for letter in row), path)

    def test_lengths_of_functions(self):
        for path in self.files():
            for node in ast.walk(ast.parse(path.read_text())):
                if isinstance(node, ast.FunctionDef):
                    self.assertLessEqual(node.end_lineno - node.lineno + 1, 40, node.name)

    def test_imports(self):
        for path in self.files():
            for node in ast.walk(ast.parse(path.read_text())):
                self.assertNotIsInstance(node, ast.Import)
                if isinstance(node, ast.ImportFrom):
                    self.assertEqual(node.level, 0)
                    if node.module not in LIBRARY:
                        self.assertTrue(node.module.startswith("haulropes."), node.module)


if __name__ == "__main__":
    unittest.main()
