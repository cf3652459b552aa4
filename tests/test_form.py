"""Tests of the form of the code: the limits of ../shared/LANGUAGE.md that can be measured."""

import ast
import builtins
import pathlib
import unittest

PACKAGE = pathlib.Path(__file__).resolve().parent.parent / "fullboats"
LIBRARY = ("__future__", "collections", "heapq", "itertools", "math")


def sources():
    """Return the name and the text of each file of the package."""
    return [(path.name, path.read_text(encoding="utf-8")) for path in sorted(PACKAGE.glob("*.py"))]


class FormTest(unittest.TestCase):

    def test_the_folder_contains_python_files_only(self):
        others = [path.name for path in PACKAGE.iterdir() if path.suffix != ".py" and path.name != "__pycache__"]
        self.assertEqual(others, [])
        self.assertIn("__init__.py", [name for name, _ in sources()])

    def test_sizes(self):
        for name, text in sources():
            with self.subTest(name=name):
                self.assertLessEqual(len(text.splitlines()), 399)
                self.assertLessEqual(max(map(len, text.splitlines())), 120)
                for node in ast.walk(ast.parse(text)):
                    if isinstance(node, ast.FunctionDef):
                        self.assertLessEqual(node.end_lineno - node.lineno + 1, 40, node.name)

    def test_characters(self):
        for name, text in sources():
            with self.subTest(name=name):
                self.assertEqual([sign for sign in text if sign != "\n" and not " " <= sign <= "~"], [])

    def test_imports(self):
        for name, text in sources():
            for node in ast.walk(ast.parse(text)):
                with self.subTest(name=name):
                    self.assertNotIsInstance(node, ast.Import)
                    if isinstance(node, ast.ImportFrom):
                        self.assertTrue(node.module.startswith("fullboats.") or node.module in LIBRARY)

    def test_variables_are_not_named_like_builtins(self):
        for name, text in sources():
            for node in ast.walk(ast.parse(text)):
                if isinstance(node, ast.Name) and isinstance(node.ctx, ast.Store):
                    with self.subTest(name=name):
                        self.assertFalse(hasattr(builtins, node.id), node.id)


if __name__ == "__main__":
    unittest.main()
