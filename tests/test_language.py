"""Rules of the language that a reading of the files can check; it does not check all of them."""

import ast
import builtins
import pathlib
import unittest

ROOT = pathlib.Path(__file__).resolve().parent.parent / "twoknowers"
BUILTINS = set(
    "len range enumerate zip min max sum abs sorted reversed int str bool list tuple dict set "
    "isinstance ord repr any all divmod iter next Exception ValueError TypeError KeyError "
    "IndexError LookupError ZeroDivisionError ArithmeticError OverflowError RuntimeError "
    "NotImplementedError StopIteration".split())
METHODS = set(
    "append clear copy count endswith extend find get index insert isalnum isalpha isdigit islower "
    "isspace isupper items join keys ljust lower lstrip partition pop remove replace reverse rfind "
    "rjust rpartition rsplit rstrip setdefault split splitlines startswith strip update upper "
    "values zfill bit_length add discard sort isascii isdecimal".split())
WORDS = set(
    "type typing typing_extensions enum Enum IntEnum StrEnum Flag IntFlag Generic Protocol ABC "
    "ABCMeta namedtuple NamedTuple TypedDict TYPE_CHECKING abstractmethod register mro elements "
    "open input law version_info eval exec compile id dir vars help globals locals".split())
BARRED = (ast.Global, ast.AsyncFunctionDef, ast.Await, ast.AsyncFor, ast.AsyncWith, ast.Div)


def files():
    return sorted(ROOT.rglob("*.py"))


def trees():
    return [(path, ast.parse(path.read_text(encoding="ascii"))) for path in files()]


def defined(path):
    """The names that a file of the package defines or assigns at module level."""
    found = set()
    for row in ast.parse(path.read_text(encoding="ascii")).body:
        if isinstance(row, (ast.FunctionDef, ast.ClassDef)):
            found.add(row.name)
        if isinstance(row, ast.Assign):
            found |= {target.id for target in row.targets}
    return found


class Language(unittest.TestCase):
    def test_files(self):
        kept = [path for path in ROOT.rglob("*") if "__pycache__" not in path.parts]
        self.assertEqual(sorted(kept), files())

    def test_characters_and_sizes(self):
        for path in files():
            text = path.read_text(encoding="ascii")
            rows = text.split("\n")
            self.assertLessEqual(len(rows), 400, path)
            self.assertTrue(all(c == "\n" or " " <= c <= "~" for c in text), path)
            self.assertLessEqual(max(len(row) for row in rows), 120, path)

    def test_functions_are_short(self):
        for path, tree in trees():
            for node in ast.walk(tree):
                if isinstance(node, ast.FunctionDef):
                    self.assertLessEqual(node.end_lineno - node.lineno + 1, 40, (path, node.name))
                    self.assertEqual(node.decorator_list, [], (path, node.name))

    def test_imports_name_the_file_that_defines_the_name(self):
        for path, tree in trees():
            for node in ast.walk(tree):
                self.assertNotIsInstance(node, ast.Import, path)
                if isinstance(node, ast.ImportFrom) and node.module not in ("heapq", "itertools"):
                    self.assertEqual((node.level, node.module.split(".")[0]), (0, "twoknowers"))
                    named = ROOT.parent.joinpath(*node.module.split(".")).with_suffix(".py")
                    for each in node.names:
                        self.assertIn(each.name, defined(named), path)

    def test_statements_and_strings(self):
        for path, tree in trees():
            for node in ast.walk(tree):
                self.assertNotIsInstance(node, BARRED, path)
                if isinstance(node, ast.Constant):
                    self.assertNotIsInstance(node.value, float, path)
                    if isinstance(node.value, str):
                        self.assertNotIn("%", node.value, path)

    def test_names(self):
        for path, tree in trees():
            for node in ast.walk(tree):
                name = getattr(node, "id", getattr(node, "attr", getattr(node, "arg", None)))
                if isinstance(node, (ast.FunctionDef, ast.ClassDef)):
                    name = node.name
                if isinstance(name, str):
                    self.assertNotIn(name, WORDS, path)
                    self.assertTrue(name == "__init__" or not name.startswith("__"), (path, name))

    def test_builtins(self):
        for path, tree in trees():
            for node in ast.walk(tree):
                if isinstance(node, ast.Name) and hasattr(builtins, node.id):
                    self.assertIn(node.id, BUILTINS, path)
                    self.assertIsInstance(node.ctx, ast.Load, path)
                if isinstance(node, ast.arg):
                    self.assertFalse(hasattr(builtins, node.arg), path)

    def test_methods_of_builtin_values(self):
        own = {node.name for _, tree in trees() for node in ast.walk(tree)
               if isinstance(node, ast.FunctionDef)}
        for path, tree in trees():
            for node in ast.walk(tree):
                if isinstance(node, ast.Call) and isinstance(node.func, ast.Attribute):
                    self.assertIn(node.func.attr, METHODS | own, path)


if __name__ == "__main__":
    unittest.main()
