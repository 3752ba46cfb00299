"""Point 1 (no clock, no random numbers, no files) and what LANGUAGE.md asks of every file of the package."""

import ast
import builtins
import re
import unittest
from pathlib import Path

PACKAGE = Path(__file__).resolve().parent.parent / "brimful"
LIBRARY = {"math", "heapq", "itertools", "collections"}
BUILTINS = set(
    "len range enumerate zip min max sum abs sorted reversed int str bool bytes list tuple dict set isinstance ord "
    "repr any all divmod pow map iter next super ValueError KeyError ZeroDivisionError NotImplemented "
    "property staticmethod classmethod".split())
FORBIDDEN = set(
    "open input print eval exec compile globals locals vars dir id hash type object float round getattr setattr "
    "hasattr delattr memoryview bytearray frozenset chr callable format slice filter hex oct bin complex".split())
# Words that no file of the package contains, not even in a string.
WORDS = set(
    "type typing typing_extensions enum Enum IntEnum StrEnum Flag IntFlag Generic Protocol ABC ABCMeta namedtuple "
    "NamedTuple TypedDict TYPE_CHECKING abstractmethod dataclass overload contextmanager".split())


def files():
    return sorted(PACKAGE.rglob("*.py"))


class FormTest(unittest.TestCase):
    def test_the_package_has_only_python_files(self):
        for path in PACKAGE.rglob("*"):
            if "__pycache__" not in path.parts and path.is_file():
                self.assertEqual(path.suffix, ".py", path)
        self.assertIn(PACKAGE / "__init__.py", files())

    def test_characters_and_sizes(self):
        for path in files():
            text = path.read_text(encoding="utf-8")
            with self.subTest(path.name):
                self.assertTrue(all(c == "\n" or " " <= c <= "~" for c in text))
                self.assertLessEqual(len(text.splitlines()), 399)
                self.assertLessEqual(max(map(len, text.splitlines())), 120)

    def test_functions_are_short(self):
        for path in files():
            for node in ast.walk(ast.parse(path.read_text())):
                if isinstance(node, ast.FunctionDef):
                    with self.subTest(file=path.name, function=node.name):
                        self.assertLessEqual(node.end_lineno - node.lineno + 1, 40)
                        self.assertEqual(
                            [d.id for d in node.decorator_list if isinstance(d, ast.Name)
                             and d.id not in ("property", "staticmethod", "classmethod")], [])

    def test_imports(self):
        for path in files():
            tree = ast.parse(path.read_text())
            for node in ast.walk(tree):
                with self.subTest(path.name):
                    self.assertNotIsInstance(node, ast.Import)
                    if isinstance(node, ast.ImportFrom):
                        self.assertIn(node, tree.body)
                        self.assertEqual(node.level, 0)
                        self.assertTrue(node.module in LIBRARY or node.module.startswith("brimful."))
                        self.assertTrue(all(name.asname is None and name.name != "*" for name in node.names))

    def test_builtins(self):
        self.assertFalse(BUILTINS & FORBIDDEN)
        for path in files():
            for node in ast.walk(ast.parse(path.read_text())):
                if isinstance(node, ast.Name):
                    with self.subTest(file=path.name, line=node.lineno):
                        self.assertNotIn(node.id, FORBIDDEN)

    def test_no_floats_and_no_bare_division(self):
        for path in files():
            for node in ast.walk(ast.parse(path.read_text())):
                with self.subTest(path.name):
                    self.assertNotIsInstance(node, (ast.Div, ast.Global, ast.Set))
                    if isinstance(node, ast.Constant):
                        self.assertNotIsInstance(node.value, (float, complex))

    def test_no_name_of_a_builtin_or_an_import_is_given_another_meaning(self):
        for path in files():
            tree = ast.parse(path.read_text())
            taken = {name.name for node in tree.body if isinstance(node, ast.ImportFrom) for name in node.names}
            taken |= {node.name for node in tree.body if isinstance(node, ast.ClassDef)}
            for node in ast.walk(tree):
                bound = []
                if isinstance(node, ast.Name) and isinstance(node.ctx, ast.Store):
                    bound = [node.id]
                elif isinstance(node, ast.arg):
                    bound = [node.arg]
                elif isinstance(node, (ast.MatchAs, ast.MatchStar)) and node.name:
                    bound = [node.name]
                elif isinstance(node, ast.FunctionDef):
                    bound = [node.name]
                for name in bound:
                    with self.subTest(file=path.name, line=node.lineno, name=name):
                        self.assertNotIn(name, taken)
                        self.assertNotIn(name, vars(builtins))

    def test_strings_and_words(self):
        for path in files():
            tree = ast.parse(path.read_text())
            docstrings = [part.body[0].value for part in ast.walk(tree)
                          if isinstance(part, (ast.Module, ast.ClassDef, ast.FunctionDef)) and ast.get_docstring(part)]
            for node in ast.walk(tree):
                if isinstance(node, ast.Constant) and isinstance(node.value, str):
                    with self.subTest(file=path.name, line=node.lineno):
                        self.assertNotIn("%", node.value)
                        if node not in docstrings:
                            self.assertFalse(WORDS & set(re.findall(r"\w+", node.value)))
                elif isinstance(node, ast.Name):
                    self.assertNotIn(node.id, WORDS)

    def test_powers_and_identity(self):
        for path in files():
            for node in ast.walk(ast.parse(path.read_text())):
                with self.subTest(path.name):
                    self.assertNotIsInstance(node, ast.Pow)
                    if isinstance(node, ast.Compare) and isinstance(node.ops[0], (ast.Is, ast.IsNot)):
                        self.assertIn(getattr(node.comparators[0], "value", 0), (None, True, False))

    def test_no_two_files_import_from_each_other(self):
        needed = {}
        for path in files():
            tree = ast.parse(path.read_text())
            needed["brimful." + path.stem] = {node.module for node in tree.body if isinstance(node, ast.ImportFrom)}
        while needed:
            free = [name for name in needed if not needed[name] & set(needed)]
            self.assertTrue(free, sorted(needed))
            for name in free:
                del needed[name]


if __name__ == "__main__":
    unittest.main()
