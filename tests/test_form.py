"""Point 1 (no clock, no random numbers, no files) and what LANGUAGE.md asks of every file of the package."""

import ast
import unittest
from pathlib import Path

PACKAGE = Path(__file__).resolve().parent.parent / "brimful"
LIBRARY = {"math", "heapq", "itertools", "collections"}
BUILTINS = set(
    "len range enumerate zip min max sum abs sorted reversed int str bool bytes list tuple dict set isinstance ord "
    "repr any all divmod pow map iter next super ValueError KeyError ZeroDivisionError NotImplemented "
    "property staticmethod classmethod".split())
FORBIDDEN = set(
    "open input print eval exec compile globals locals vars dir id hash type object float round getattr setattr "
    "hasattr delattr memoryview bytearray frozenset chr callable format slice filter hex oct bin complex".split())


def files():
    return sorted(PACKAGE.rglob("*.py"))


class FormTest(unittest.TestCase):
    def test_the_package_has_only_python_files(self):
        for path in PACKAGE.rglob("*"):
            if "__pycache__" not in path.parts and path.is_file():
                self.assertEqual(path.suffix, ".py", path)
        self.assertIn(PACKAGE / "__init__.py", files())

    def test_characters_and_sizes(self):
        for path in files():
            text = path.read_text(encoding="utf-8")
            with self.subTest(path.name):
                self.assertTrue(all(c == "\n" or " " <= c <= "~" for c in text))
                self.assertLessEqual(len(text.splitlines()), 399)
                self.assertLessEqual(max(map(len, text.splitlines())), 120)

    def test_functions_are_short(self):
        for path in files():
            for node in ast.walk(ast.parse(path.read_text())):
                if isinstance(node, ast.FunctionDef):
                    with self.subTest(file=path.name, function=node.name):
                        self.assertLessEqual(node.end_lineno - node.lineno + 1, 40)
                        self.assertEqual(
                            [d.id for d in node.decorator_list if isinstance(d, ast.Name)
                             and d.id not in ("property", "staticmethod", "classmethod")], [])

    def test_imports(self):
        for path in files():
            tree = ast.parse(path.read_text())
            for node in ast.walk(tree):
                with self.subTest(path.name):
                    self.assertNotIsInstance(node, ast.Import)
                    if isinstance(node, ast.ImportFrom):
                        self.assertIn(node, tree.body)
                        self.assertEqual(node.level, 0)
                        self.assertTrue(node.module in LIBRARY or node.module.startswith("brimful."))
                        self.assertTrue(all(name.asname is None and name.name != "*" for name in node.names))

    def test_builtins(self):
        self.assertFalse(BUILTINS & FORBIDDEN)
        for path in files():
            for node in ast.walk(ast.parse(path.read_text())):
                if isinstance(node, ast.Name):
                    with self.subTest(file=path.name, line=node.lineno):
                        self.assertNotIn(node.id, FORBIDDEN)

    def test_no_floats_and_no_bare_division(self):
        for path in files():
            for node in ast.walk(ast.parse(path.read_text())):
                with self.subTest(path.name):
                    self.assertNotIsInstance(node, (ast.Div, ast.Global, ast.Set))
                    if isinstance(node, ast.Constant):
                        self.assertNotIsInstance(node.value, (float, complex))


if __name__ == "__main__":
    unittest.main()
