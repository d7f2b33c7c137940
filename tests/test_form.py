"""Some rules for the form of the package's files, as far as a short test can see them."""

import ast
import unittest
from pathlib import Path

PACKAGE = Path(__file__).resolve().parent.parent / "heapsdouble"
LIBRARY = {"math": {"gcd"}, "itertools": {"combinations"}}


def package_files():
    return [path for path in sorted(PACKAGE.rglob("*")) if "__pycache__" not in path.parts]


class FormTest(unittest.TestCase):
    def test_folder_holds_python_files_only(self):
        self.assertIn(PACKAGE / "__init__.py", package_files())
        self.assertEqual([path.name for path in package_files() if path.suffix != ".py"], [])

    def test_lines_and_characters(self):
        for path in package_files():
            with self.subTest(path.name):
                text = path.read_text(encoding="utf-8")
                self.assertEqual([c for c in text if c != "\n" and not " " <= c <= "~"], [])
                self.assertLessEqual(len(text.splitlines()), 399)
                self.assertLessEqual(max(len(line) for line in text.splitlines()), 120)

    def test_functions_are_short(self):
        for path in package_files():
            for node in ast.walk(ast.parse(path.read_text(encoding="utf-8"))):
                if isinstance(node, ast.FunctionDef):
                    self.assertLessEqual(node.end_lineno - node.lineno + 1, 40, (path.name, node.name))

    def test_imports(self):
        for path in package_files():
            for node in ast.walk(ast.parse(path.read_text(encoding="utf-8"))):
                self.assertNotIsInstance(node, ast.Import, path.name)
                if isinstance(node, ast.ImportFrom) and not node.module.startswith("heapsdouble."):
                    self.assertLessEqual({name.name for name in node.names}, LIBRARY.get(node.module, set()), path.name)


if __name__ == "__main__":
    unittest.main()
