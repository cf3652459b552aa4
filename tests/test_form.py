"""Tests of the form of the code: the limits of ../shared/LANGUAGE.md that can be measured."""

import ast
import builtins
import pathlib
import unittest

PACKAGE = pathlib.Path(__file__).resolve().parent.parent / "fullboats"
LIBRARY = ("__future__", "collections", "heapq", "itertools", "math")
BUILTINS = (
    "len range enumerate zip min max sum abs sorted reversed int str bool bytes list tuple dict set isinstance ord any all"
    " divmod Exception ValueError").split()
METHODS = (
    "append clear copy count endswith extend find get index insert isdigit items join keys partition pop remove replace"
    " reverse setdefault split startswith update values zfill add discard").split()
# Names that are not used at all, and words that do not occur.
BARRED_NAMES = (
    "register mro elements open input law version_info with_traceback add_note breakpoint compile delattr dir eval exec"
    " exit format globals help id locals next iter super sys os type vars").split()
BARRED_WORDS = "typing enum Enum Flag Generic Protocol ABC namedtuple NamedTuple dataclass overload contextmanager".split()


def sources():
    """Return the name and the text of each file of the package."""
    return [(path.name, path.read_text(encoding="utf-8")) for path in sorted(PACKAGE.glob("*.py"))]


class FormTest(unittest.TestCase):

    def test_the_folder_contains_python_files_only(self):
        others = [path.name for path in PACKAGE.iterdir() if path.suffix != ".py" and path.name != "__pycache__"]
        self.assertEqual(others, [])
        self.assertIn("__init__.py", [name for name, _ in sources()])

    def test_sizes(self):
        for name, text in sources():
            with self.subTest(name=name):
                self.assertLessEqual(len(text.splitlines()), 399)
                self.assertLessEqual(max(map(len, text.splitlines())), 120)
                for node in ast.walk(ast.parse(text)):
                    if isinstance(node, ast.FunctionDef):
                        self.assertLessEqual(node.end_lineno - node.lineno + 1, 40, node.name)

    def test_characters(self):
        for name, text in sources():
            with self.subTest(name=name):
                self.assertEqual([sign for sign in text if sign != "\n" and not " " <= sign <= "~"], [])

    def test_imports(self):
        for name, text in sources():
            for node in ast.walk(ast.parse(text)):
                with self.subTest(name=name):
                    self.assertNotIsInstance(node, ast.Import)
                    if isinstance(node, ast.ImportFrom):
                        self.assertTrue(node.module.startswith("fullboats.") or node.module in LIBRARY)

    def test_variables_are_not_named_like_builtins(self):
        for name, text in sources():
            for node in ast.walk(ast.parse(text)):
                if isinstance(node, ast.Name) and isinstance(node.ctx, ast.Store):
                    with self.subTest(name=name):
                        self.assertFalse(hasattr(builtins, node.id), node.id)

    def test_no_name_is_bound_twice_in_a_file(self):
        for name, text in sources():
            tree = ast.parse(text)
            outer = [node.name for node in tree.body if isinstance(node, (ast.FunctionDef, ast.ClassDef))]
            for node in tree.body:
                if isinstance(node, ast.ImportFrom):
                    outer += [alias.name for alias in node.names]
                if isinstance(node, ast.Assign):
                    outer += [target.id for target in node.targets]
            inner = [node.arg for node in ast.walk(tree) if isinstance(node, ast.arg)]
            for function in ast.walk(tree):
                if isinstance(function, ast.FunctionDef):
                    inner += [node.id for node in ast.walk(function)
                              if isinstance(node, ast.Name) and isinstance(node.ctx, ast.Store)]
            with self.subTest(name=name):
                self.assertEqual(sorted(set(outer)), sorted(outer))
                self.assertEqual(sorted(set(inner) & set(outer)), [])

    def test_parameters_are_not_named_like_builtins(self):
        for name, text in sources():
            for node in ast.walk(ast.parse(text)):
                if isinstance(node, ast.arg):
                    with self.subTest(name=name):
                        self.assertFalse(hasattr(builtins, node.arg), node.arg)

    def test_no_two_files_import_from_each_other(self):
        wants = {}
        for name, text in sources():
            wants[name] = [node.module.split(".")[1] + ".py" for node in ast.parse(text).body
                           if isinstance(node, ast.ImportFrom) and node.module.startswith("fullboats.")]
        done = []
        while len(done) < len(wants):
            ready = [name for name in wants if name not in done and set(wants[name]) <= set(done)]
            self.assertNotEqual(ready, [], wants)
            done += ready

    def test_signs_and_values_that_are_not_used(self):
        for name, text in sources():
            for node in ast.walk(ast.parse(text)):
                with self.subTest(name=name):
                    self.assertNotIsInstance(node, (ast.Div, ast.GeneratorExp, ast.Global))
                    # Where a package makes bytes, it must be certain that a number stands ahead of the sign.
                    self.assertNotIsInstance(node, ast.Mod)
                    if isinstance(node, ast.Constant):
                        self.assertNotIsInstance(node.value, (float, complex))
                        self.assertNotIn("%", str(node.value))

    def test_names(self):
        for name, text in sources():
            for word in BARRED_WORDS:
                self.assertNotIn(word, text.split())
            for node in ast.walk(ast.parse(text)):
                found = [getattr(node, field, None) for field in ("id", "attr", "arg", "name")]
                for word in found:
                    if isinstance(word, str):
                        with self.subTest(name=name, word=word):
                            self.assertNotIn(word, BARRED_NAMES)
                            self.assertTrue(word in ("_", "__init__") or not word.startswith("_"))

    def test_calls(self):
        functions, methods = set(), set()
        trees = [ast.parse(text) for _, text in sources()]
        for tree in trees:
            for node in ast.walk(tree):
                if isinstance(node, (ast.FunctionDef, ast.ClassDef)):
                    functions.add(node.name)
                    methods.add(node.name)
        for tree in trees:
            inner = {node.id for node in ast.walk(tree) if isinstance(node, ast.Name) and isinstance(node.ctx, ast.Store)}
            imported = {alias.name for node in tree.body if isinstance(node, ast.ImportFrom) for alias in node.names}
            for node in ast.walk(tree):
                if isinstance(node, ast.Call):
                    # Keywords are passed to own functions only, and here to none.
                    self.assertEqual(node.keywords, [])
                    if isinstance(node.func, ast.Name):
                        self.assertIn(node.func.id, functions | inner | imported | set(BUILTINS))
                    else:
                        self.assertIn(node.func.attr, methods | set(METHODS))

    def test_lists_at_module_level_are_not_changed(self):
        for name, text in sources():
            tree = ast.parse(text)
            tables = {target.id for node in tree.body if isinstance(node, ast.Assign) for target in node.targets
                      if isinstance(node.value, (ast.List, ast.Dict))}
            for node in ast.walk(tree):
                with self.subTest(name=name):
                    if isinstance(node, ast.Attribute) and isinstance(node.value, ast.Name) and node.value.id in tables:
                        self.assertIn(node.attr, ("get", "items"))
                    if isinstance(node, ast.Subscript) and isinstance(node.value, ast.Name) and node.value.id in tables:
                        self.assertIsInstance(node.ctx, ast.Load)


if __name__ == "__main__":
    unittest.main()
