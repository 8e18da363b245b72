"""Tests of the package's files: the rules of the language subset that can be seen at a glance."""

import ast
import unittest
from pathlib import Path

PACKAGE = Path(__file__).resolve().parent.parent / "fieldrest"
LIBRARY = ("heapq", "math", "itertools", "collections")


def files():
    """Return the package's files, but for what Python itself keeps beside them."""
    return [path for path in sorted(PACKAGE.rglob("*")) if "__pycache__" not in path.parts]


class FilesTest(unittest.TestCase):
    def test_only_files_of_python_with_plain_names(self):
        self.assertIn(PACKAGE / "__init__.py", files())
        for path in files():
            with self.subTest(path=path):
                self.assertRegex(path.name, r"\A[a-z0-9_]+\.py\Z")

    def test_signs_and_sizes(self):
        for path in files():
            with self.subTest(path=path):
                text = path.read_bytes().decode("ascii")
                self.assertRegex(text, r"\A[ -~\n]*\Z")
                lines = text.split("\n")
                self.assertLess(len(lines), 400)
                self.assertLessEqual(max(len(line) for line in lines), 120)

    def test_functions_are_short(self):
        for path in files():
            for node in ast.walk(ast.parse(path.read_text())):
                if isinstance(node, ast.FunctionDef):
                    with self.subTest(path=path, name=node.name):
                        self.assertLessEqual(node.end_lineno - node.lineno + 1, 40)

    def test_imports_come_from_the_package(self):
        for path in files():
            for node in ast.walk(ast.parse(path.read_text())):
                with self.subTest(path=path):
                    self.assertNotIsInstance(node, ast.Import)
                    if isinstance(node, ast.ImportFrom) and node.module not in LIBRARY:
                        self.assertEqual(node.level, 0)
                        self.assertRegex(node.module, r"\A(fieldrest\.|__future__\Z)")

    def test_module_level(self):
        for path in files():
            for node in ast.parse(path.read_text()).body:
                with self.subTest(path=path, line=node.lineno):
                    plain = (ast.ImportFrom, ast.FunctionDef, ast.ClassDef, ast.Assign)
                    docstring = isinstance(node, ast.Expr) and isinstance(node.value, ast.Constant)
                    self.assertTrue(docstring or isinstance(node, plain))


if __name__ == "__main__":
    unittest.main()
