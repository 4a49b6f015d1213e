"""The package's files keep to the sizes, signs and names that are asked of them."""

import ast
import builtins
import pathlib
import re
import unittest

PACKAGE = pathlib.Path(__file__).resolve().parent.parent / "calledbyname"
FILES = sorted(PACKAGE.glob("*.py"))
ALLOWED = set(
    "len range enumerate zip min max sum abs sorted reversed int str bool list tuple dict set frozenset isinstance ord "
    "repr any all divmod Exception ValueError TypeError KeyError IndexError LookupError ZeroDivisionError "
    "ArithmeticError OverflowError RuntimeError NotImplementedError AttributeError StopIteration".split()
)
METHODS = set(
    "append clear copy count endswith extend find get index insert isalnum isalpha isdigit islower isspace isupper "
    "items join keys ljust lower lstrip partition pop remove replace reverse rfind rjust rpartition rsplit rstrip "
    "setdefault split splitlines startswith strip update upper values zfill bit_length".split()
)
WORDS = (
    r"\b(type|typing|typing_extensions|enum|Enum|IntEnum|StrEnum|Flag|IntFlag|Generic|Protocol|ABC|ABCMeta|namedtuple"
    r"|NamedTuple|TypedDict|TYPE_CHECKING|abstractmethod)\b|dataclass|overload|contextmanager"
)
LEFT_OUT = (
    ast.Import, ast.ImportFrom, ast.With, ast.Match, ast.Delete, ast.Global, ast.Nonlocal, ast.Assert, ast.Yield,
    ast.YieldFrom, ast.AsyncFunctionDef, ast.Await, ast.Starred, ast.NamedExpr, ast.Div, ast.SetComp, ast.DictComp,
    ast.GeneratorExp,
)


class Form(unittest.TestCase):
    def trees(self):
        for file in FILES:
            yield file.name, ast.parse(file.read_text("ascii"))

    def test_files(self):
        self.assertEqual([file.name for file in FILES], ["__init__.py", "notes.py"])
        others = [one.name for one in PACKAGE.iterdir() if one not in FILES and one.name != "__pycache__"]
        self.assertEqual(others, [])

    def test_signs_and_sizes(self):
        for file in FILES:
            lines = file.read_text("ascii").split("\n")
            self.assertLessEqual(len(lines) - 1, 400, file.name)
            for line in lines:
                self.assertLessEqual(len(line), 120, line)
                self.assertTrue(all(" " <= sign <= "~" for sign in line), line)

    def test_functions_are_short(self):
        for name, tree in self.trees():
            for node in ast.walk(tree):
                if isinstance(node, ast.FunctionDef):
                    self.assertLessEqual(node.end_lineno - node.lineno + 1, 40, f"{name}: {node.name}")

    def test_nothing_is_imported_and_no_other_form_is_used(self):
        for name, tree in self.trees():
            for node in ast.walk(tree):
                self.assertNotIsInstance(node, LEFT_OUT, f"{name}: {ast.dump(node)}")

    def test_pythons_own_names(self):
        for name, tree in self.trees():
            for node in ast.walk(tree):
                if isinstance(node, ast.Name) and hasattr(builtins, node.id):
                    self.assertIn(node.id, ALLOWED, name)
                    self.assertIsInstance(node.ctx, ast.Load, f"{name}: {node.id}")
                if isinstance(node, ast.arg):
                    self.assertFalse(hasattr(builtins, node.arg), f"{name}: {node.arg}")

    def test_names_are_plain(self):
        for name, tree in self.trees():
            for node in ast.walk(tree):
                for bound in (getattr(node, "id", "a"), getattr(node, "arg", "a"), getattr(node, "name", "a")):
                    self.assertRegex(bound, r"\A[A-Za-z][A-Za-z0-9_]*\Z", name)

    def test_methods_of_pythons_own_values(self):
        for name, tree in self.trees():
            for node in ast.walk(tree):
                if isinstance(node, ast.Attribute):
                    self.assertIn(node.attr, METHODS, name)

    def test_an_assignment_has_one_target(self):
        for name, tree in self.trees():
            for node in ast.walk(tree):
                if isinstance(node, ast.Assign):
                    self.assertEqual([isinstance(target, ast.Name) for target in node.targets], [True], name)

    def test_words_that_stand_nowhere(self):
        for file in FILES:
            self.assertIsNone(re.search(WORDS, file.read_text("ascii")), file.name)


if __name__ == "__main__":
    unittest.main()
