"""Tests of the form of the code: the limits of ../shared/LANGUAGE.md that can be measured."""

import ast
import builtins
import pathlib
import unittest

PACKAGE = pathlib.Path(__file__).resolve().parent.parent / "fullboats"
LIBRARY = ("__future__", "collections", "heapq", "itertools", "math")


def sources():
    """Return the name and the text of each file of the package."""
    return [(path.name, path.read_text(encoding="utf-8")) for path in sorted(PACKAGE.glob("*.py"))]


class FormTest(unittest.TestCase):

    def test_the_folder_contains_python_files_only(self):
        others = [path.name for path in PACKAGE.iterdir() if path.suffix != ".py" and path.name != "__pycache__"]
        self.assertEqual(others, [])
        self.assertIn("__init__.py", [name for name, _ in sources()])

    def test_sizes(self):
        for name, text in sources():
            with self.subTest(name=name):
                self.assertLessEqual(len(text.splitlines()), 399)
                self.assertLessEqual(max(map(len, text.splitlines())), 120)
                for node in ast.walk(ast.parse(text)):
                    if isinstance(node, ast.FunctionDef):
                        self.assertLessEqual(node.end_lineno - node.lineno + 1, 40, node.name)

    def test_characters(self):
        for name, text in sources():
            with self.subTest(name=name):
                self.assertEqual([sign for sign in text if sign != "\n" and not " " <= sign <= "~"], [])

    def test_imports(self):
        for name, text in sources():
            for node in ast.walk(ast.parse(text)):
                with self.subTest(name=name):
                    self.assertNotIsInstance(node, ast.Import)
                    if isinstance(node, ast.ImportFrom):
                        self.assertTrue(node.module.startswith("fullboats.") or node.module in LIBRARY)

    def test_variables_are_not_named_like_builtins(self):
        for name, text in sources():
            for node in ast.walk(ast.parse(text)):
                if isinstance(node, ast.Name) and isinstance(node.ctx, ast.Store):
                    with self.subTest(name=name):
                        self.assertFalse(hasattr(builtins, node.id), node.id)

    def test_no_name_is_bound_twice_in_a_file(self):
        for name, text in sources():
            tree = ast.parse(text)
            outer = [node.name for node in tree.body if isinstance(node, (ast.FunctionDef, ast.ClassDef))]
            for node in tree.body:
                if isinstance(node, ast.ImportFrom):
                    outer += [alias.name for alias in node.names]
                if isinstance(node, ast.Assign):
                    outer += [target.id for target in node.targets]
            inner = [node.arg for node in ast.walk(tree) if isinstance(node, ast.arg)]
            for function in ast.walk(tree):
                if isinstance(function, ast.FunctionDef):
                    inner += [node.id for node in ast.walk(function)
                              if isinstance(node, ast.Name) and isinstance(node.ctx, ast.Store)]
            with self.subTest(name=name):
                self.assertEqual(sorted(set(outer)), sorted(outer))
                self.assertEqual(sorted(set(inner) & set(outer)), [])

    def test_parameters_are_not_named_like_builtins(self):
        for name, text in sources():
            for node in ast.walk(ast.parse(text)):
                if isinstance(node, ast.arg):
                    with self.subTest(name=name):
                        self.assertFalse(hasattr(builtins, node.arg), node.arg)

    def test_no_two_files_import_from_each_other(self):
        wants = {}
        for name, text in sources():
            wants[name] = [node.module.split(".")[1] + ".py" for node in ast.parse(text).body
                           if isinstance(node, ast.ImportFrom) and node.module.startswith("fullboats.")]
        done = []
        while len(done) < len(wants):
            ready = [name for name in wants if name not in done and set(wants[name]) <= set(done)]
            self.assertNotEqual(ready, [], wants)
            done += ready

    def test_signs_and_values_that_are_not_used(self):
        for name, text in sources():
            for node in ast.walk(ast.parse(text)):
                with self.subTest(name=name):
                    self.assertNotIsInstance(node, (ast.Div, ast.GeneratorExp, ast.Global))
                    if isinstance(node, ast.Constant):
                        self.assertNotIsInstance(node.value, (float, complex))
                        self.assertNotIn("%", str(node.value))


if __name__ == "__main__":
    unittest.main()
