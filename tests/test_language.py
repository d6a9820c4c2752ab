"""Point 00.1, and what can be checked of the rules for the language of the package."""

import ast
import builtins
import functools
import pathlib
import re
import unittest

PACKAGE = pathlib.Path(__file__).resolve().parent.parent / "manysides"
FILES = sorted(PACKAGE.glob("*.py"))
BUILTINS = set("""len range enumerate zip min max sum abs sorted reversed int str bool list tuple dict set isinstance ord
    repr any all divmod pow getattr hasattr setattr iter next map super Exception ValueError TypeError KeyError IndexError
    LookupError ZeroDivisionError RuntimeError NotImplementedError StopIteration""".split())
LIBRARY = {"heapq", "math", "itertools", "collections"}
WORDS = {"type", "typing", "typing_extensions", "enum", "Enum", "IntEnum", "StrEnum", "Flag", "IntFlag", "Generic",
         "Protocol", "ABC", "ABCMeta", "namedtuple", "NamedTuple", "TypedDict", "TYPE_CHECKING", "abstractmethod",
         "register", "mro", "elements", "open", "input", "law"}
METHODS = set("""append clear copy count endswith extend find get index insert isalnum isalpha isdigit islower isspace
    isupper items join keys ljust lower lstrip partition pop remove replace reverse rfind rjust rpartition rsplit rstrip
    setdefault split splitlines startswith strip update upper values zfill bit_length sort add discard format""".split())
DOUBLE_UNDERSCORE = {"__init__", "__class__", "__name__"}
BARRED = (ast.Global, ast.AsyncFunctionDef, ast.Await, ast.Import, ast.Div)


@functools.cache
def trees():
    """Returns the list of pairs of the name of a file and its tree."""
    return [(path.name, ast.parse(path.read_text(encoding="ascii"))) for path in FILES]


def nodes(kind):
    """Returns the list of pairs of the name of a file and a node of a kind in it."""
    return [(name, node) for name, tree in trees() for node in ast.walk(tree) if isinstance(node, kind)]


@functools.cache
def own_methods():
    """Returns the set of the names of the methods of the package."""
    return {inner.name for _, node in nodes(ast.ClassDef) for inner in node.body if isinstance(inner, ast.FunctionDef)}


class LanguageTest(unittest.TestCase):
    def test_the_folder_has_nothing_but_files_of_the_program(self):
        names = [path.name for path in PACKAGE.iterdir() if path.name != "__pycache__"]
        self.assertIn("__init__.py", names)
        for name in names:
            self.assertRegex(name, r"\A[a-z_]+\.py\Z")

    def test_sizes_and_characters(self):
        for path in FILES:
            text = path.read_text(encoding="ascii")
            self.assertRegex(text, r"\A[ -~\n]*\Z")
            lines = text.split("\n")
            self.assertLessEqual(len(lines), 399, path.name)
            self.assertLessEqual(max([len(line) for line in lines]), 120, path.name)

    def test_functions_are_short(self):
        for name, node in nodes(ast.FunctionDef):
            self.assertLessEqual(node.end_lineno - node.lineno + 1, 40, f"{name}: {node.name}")

    def test_imports(self):
        for name, node in nodes(ast.ImportFrom):
            self.assertEqual(node.level, 0)
            self.assertTrue(node.module in LIBRARY or re.match(r"\Amanysides\.[a-z_]+\Z", node.module), name)
            self.assertEqual([alias.asname for alias in node.names], [None] * len(node.names), name)

    def test_what_the_language_bars(self):
        for name, node in nodes(BARRED):
            self.fail(f"{name}: {node.lineno}: {node}")

    def test_only_known_functions_and_methods_are_called(self):
        classes = {node.name for _, node in nodes(ast.ClassDef)}
        for name, tree in trees():
            known = set(BUILTINS) | classes
            for node in ast.walk(tree):
                if isinstance(node, ast.FunctionDef):
                    known.add(node.name)
                elif isinstance(node, ast.ImportFrom):
                    known.update([alias.name for alias in node.names])
                elif isinstance(node, ast.Name) and isinstance(node.ctx, ast.Store):
                    known.add(node.id)
                elif isinstance(node, ast.arg):
                    known.add(node.arg)
            for node in ast.walk(tree):
                if isinstance(node, ast.Call) and isinstance(node.func, ast.Name):
                    self.assertIn(node.func.id, known, name)
                elif isinstance(node, ast.Call):
                    self.assertIn(node.func.attr, METHODS | own_methods(), name)

    def test_no_name_of_a_builtin_gets_another_meaning(self):
        taken = set(dir(builtins))
        for name, node in nodes((ast.Name, ast.arg, ast.FunctionDef, ast.ClassDef)):
            if isinstance(node, ast.Name) and isinstance(node.ctx, ast.Load):
                continue
            word = getattr(node, "id", None) or getattr(node, "arg", None) or node.name
            self.assertNotIn(word, (taken | WORDS) - DOUBLE_UNDERSCORE, name)

    def test_strings_and_words(self):
        for name, node in nodes(ast.Constant):
            self.assertNotIsInstance(node.value, (float, bytes, complex), name)
            if isinstance(node.value, str):
                self.assertNotIn("%", node.value, name)
                self.assertEqual(set(re.findall(r"\w+", node.value)) & WORDS, set(), name)
        for name, node in nodes((ast.Name, ast.Attribute)):
            word = node.id if isinstance(node, ast.Name) else node.attr
            if word.startswith("__"):
                self.assertIn(word, DOUBLE_UNDERSCORE, name)

    def test_modules_hold_only_what_they_may(self):
        allowed = (ast.ImportFrom, ast.FunctionDef, ast.ClassDef, ast.Assign, ast.Expr)
        for name, tree in trees():
            for index, node in enumerate(tree.body):
                self.assertIsInstance(node, allowed, name)
                if isinstance(node, ast.Expr):
                    self.assertEqual(index, 0, name)
                    self.assertIsInstance(node.value, ast.Constant, name)
