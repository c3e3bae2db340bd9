"""Plain rules of the language that a test can see: files, sizes, imports, names and operators."""

import ast
import builtins
import re
import unittest
from functools import lru_cache
from pathlib import Path

PACKAGE = Path(__file__).resolve().parent.parent / "nodoubt"

BUILTINS = set(
    "len range enumerate zip min max sum abs sorted reversed int str bool list tuple dict set isinstance ord repr any "
    "all divmod iter next super map Exception ValueError TypeError KeyError IndexError LookupError StopIteration "
    "ZeroDivisionError RuntimeError NotImplemented NotImplementedError property staticmethod classmethod".split()
)

METHODS = set(
    "append clear copy count endswith extend find get index insert isalnum isalpha isdigit islower isspace isupper "
    "items join keys ljust lower lstrip partition pop remove replace reverse rfind rjust rpartition rsplit rstrip "
    "setdefault split splitlines startswith strip update upper values zfill bit_length add discard __init__".split()
)

BARRED = (
    ast.Global, ast.AsyncFunctionDef, ast.AsyncFor, ast.AsyncWith, ast.Await, ast.Import, ast.Div, ast.MatMult,
    ast.TryStar,
)

# The words of L17 that stand nowhere outside of comments and docstrings.
WORDS = "type typing enum Enum Flag Generic Protocol ABC namedtuple NamedTuple dataclass overload contextmanager".split()


def files():
    return sorted(PACKAGE.rglob("*.py"))


def nodes(path):
    return list(ast.walk(ast.parse(path.read_text())))


@lru_cache(maxsize=None)
def own_methods():
    """The names of the methods that the package defines."""
    classes = [node for path in files() for node in nodes(path) if isinstance(node, ast.ClassDef)]
    return {node.name for each in classes for node in each.body if isinstance(node, ast.FunctionDef)}


class Language(unittest.TestCase):
    def test_files(self):
        self.assertGreater(len(files()), 4)
        for path in PACKAGE.rglob("*"):
            if "__pycache__" not in path.parts:
                self.assertRegex(path.name, r"\A([a-z0-9_]+\.py|[a-z0-9_]+)\Z")
                self.assertFalse(path.name.startswith("test"))

    def test_characters_and_lines(self):
        for path in files():
            text = path.read_text(encoding="utf-8")
            self.assertRegex(text, r"\A[ -~\n]*\Z", path.name)
            lines = text.splitlines()
            self.assertLessEqual(len(lines), 399, path.name)
            self.assertLessEqual(max(len(line) for line in lines), 120, path.name)

    def test_functions(self):
        for path in files():
            for node in nodes(path):
                if isinstance(node, ast.FunctionDef):
                    self.assertLessEqual(node.end_lineno - node.lineno + 1, 40, (path.name, node.name))
                    self.assertEqual(node.decorator_list, [], (path.name, node.name))

    def test_imports(self):
        for path in files():
            for node in nodes(path):
                if isinstance(node, ast.ImportFrom):
                    self.assertEqual(node.level, 0)
                    self.assertRegex(node.module, r"\Anodoubt\.[a-z_]+\Z")
                    self.assertTrue(all(each.asname is None and each.name != "*" for each in node.names))

    def test_statements_and_operators(self):
        for path in files():
            for node in nodes(path):
                where = (path.name, getattr(node, "lineno", 0))
                self.assertNotIsInstance(node, BARRED, where)
                if isinstance(node, ast.Constant):
                    self.assertNotIsInstance(node.value, (float, complex), where)
                    self.assertNotIn("%", node.value if isinstance(node.value, str) else "", where)
                if isinstance(node, ast.Compare) and isinstance(node.ops[0], (ast.Is, ast.IsNot)):
                    self.assertIn(ast.unparse(node.comparators[0]), ("None", "True", "False"), where)

    def test_names(self):
        for path in files():
            for node in nodes(path):
                where = (path.name, getattr(node, "lineno", 0))
                if isinstance(node, ast.Name) and node.id != "_" and hasattr(builtins, node.id):
                    self.assertIsInstance(node.ctx, ast.Load, where)
                    self.assertIn(node.id, BUILTINS, where)
                if isinstance(node, ast.Call) and isinstance(node.func, ast.Attribute):
                    self.assertIn(node.func.attr, METHODS | own_methods(), where)
                if isinstance(node, (ast.Name, ast.arg, ast.Attribute)):
                    name = getattr(node, "id", getattr(node, "arg", getattr(node, "attr", "")))
                    self.assertTrue(name == "__init__" or not re.match("__", name), where)

    def test_names_of_the_module_are_not_bound_again(self):
        for path in files():
            found = []
            for node in ast.parse(path.read_text()).body:
                if isinstance(node, ast.ImportFrom):
                    found += [each.name for each in node.names]
                if isinstance(node, (ast.FunctionDef, ast.ClassDef)):
                    found.append(node.name)
                if isinstance(node, ast.Assign):
                    found += [each.id for each in node.targets]
            self.assertEqual(sorted(set(found)), sorted(found), path.name)
            functions = [node for node in nodes(path) if isinstance(node, ast.FunctionDef)]
            for node in [each for function in functions for each in ast.walk(function)]:
                if isinstance(node, ast.Name) and isinstance(node.ctx, ast.Store):
                    self.assertNotIn(node.id, found, (path.name, node.lineno))
                if isinstance(node, ast.arg):
                    self.assertNotIn(node.arg, found, (path.name, node.lineno))

    def test_imported_names_are_used(self):
        for path in files():
            read = {node.id for node in nodes(path) if isinstance(node, ast.Name)}
            for node in nodes(path):
                if isinstance(node, ast.ImportFrom):
                    self.assertEqual([each.name for each in node.names if each.name not in read], [], path.name)

    def test_what_a_loop_goes_over_is_not_changed_in_it(self):
        changing = "append clear extend insert pop remove reverse setdefault update add discard".split()
        for path in files():
            for loop in nodes(path):
                if isinstance(loop, ast.For):
                    over = {node.id for node in ast.walk(loop.iter) if isinstance(node, ast.Name)}
                    for node in [each for row in loop.body for each in ast.walk(row)]:
                        if isinstance(node, ast.Call) and isinstance(node.func, ast.Attribute):
                            if node.func.attr in changing and isinstance(node.func.value, ast.Name):
                                self.assertNotIn(node.func.value.id, over, (path.name, node.lineno))

    def test_words(self):
        for path in files():
            for node in nodes(path):
                name = getattr(node, "id", getattr(node, "attr", getattr(node, "arg", getattr(node, "name", ""))))
                self.assertNotIn(name, WORDS, path.name)
