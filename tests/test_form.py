"""The package keeps to the small part of Python that it is to be written in, as far as this can be seen."""

import ast
import builtins
import pathlib
import re
import unittest

PACKAGE = pathlib.Path(__file__).resolve().parent.parent / "againstother"

ALLOWED_NAMES = set("""
    len range enumerate zip min max sum abs sorted reversed int str bool list tuple dict set frozenset isinstance
    ord repr any all divmod Exception ValueError KeyError IndexError LookupError ZeroDivisionError
    ArithmeticError OverflowError RuntimeError NotImplementedError StopIteration TypeError AttributeError
""".split())

ALLOWED_METHODS = set("""
    append clear copy count endswith extend find get index insert isalnum isalpha isdigit islower isspace isupper
    items join keys ljust lower lstrip partition pop remove replace reverse rfind rjust rpartition rsplit rstrip
    setdefault split splitlines startswith strip update upper values zfill bit_length
""".split())

ALLOWED_NODES = set("""
    Module FunctionDef ClassDef Return Assign AugAssign For While If Raise Try Expr Pass Break Continue ImportFrom
    alias arguments arg keyword ExceptHandler Lambda BoolOp And Or BinOp Add Sub Mult FloorDiv Mod Pow LShift
    RShift BitOr BitXor BitAnd UnaryOp Invert Not USub UAdd IfExp Dict List Tuple ListComp comprehension Compare
    Eq NotEq Lt LtE Gt GtE Is IsNot In NotIn Call JoinedStr FormattedValue Constant Attribute Subscript Slice Name
    Load Store
""".split())

SPECIAL_METHODS = ("__init__", "__eq__", "__repr__", "__str__", "__len__")

BARRED_WORDS = re.compile(
    r"\b(type|typing|typing_extensions|enum|Enum|IntEnum|StrEnum|Flag|IntFlag|Generic|Protocol|ABC|ABCMeta"
    r"|namedtuple|NamedTuple|TypedDict|TYPE_CHECKING|abstractmethod)\b|dataclass|overload|contextmanager")

FUNCTION_LINES = 40
FILE_LINES = 400
LINE_LENGTH = 120


def files():
    return sorted(path for path in PACKAGE.rglob("*") if "__pycache__" not in path.parts)


def nodes(path):
    return list(ast.walk(ast.parse(path.read_text(encoding="utf-8"))))


def bound_names(path):
    """Every name that a file gives to something."""
    for node in nodes(path):
        if isinstance(node, (ast.FunctionDef, ast.ClassDef)):
            yield node.name
        elif isinstance(node, ast.arg):
            yield node.arg
        elif isinstance(node, ast.Name) and isinstance(node.ctx, ast.Store):
            yield node.id
        elif isinstance(node, ast.Attribute) and isinstance(node.ctx, ast.Store):
            yield node.attr


class Form(unittest.TestCase):
    def test_nothing_but_files_with_plain_names(self):
        names = [path.name for path in files()]
        self.assertIn("__init__.py", names)
        self.assertIn("house.py", names)
        for name in names:
            self.assertRegex(name, r"^(__init__|[a-z][a-z0-9_]*)\.py$")

    def test_signs_and_sizes(self):
        for path in files():
            text = path.read_text(encoding="utf-8")
            self.assertRegex(text, r"\A[ -~\n]*\Z", path)
            self.assertLessEqual(len(text.splitlines()), FILE_LINES, path)
            self.assertLessEqual(max(len(row) for row in text.splitlines()), LINE_LENGTH, path)
            self.assertIsNone(BARRED_WORDS.search(text), path)

    def test_functions_are_short(self):
        for path in files():
            for node in nodes(path):
                if isinstance(node, ast.FunctionDef):
                    self.assertLessEqual(node.end_lineno - node.lineno + 1, FUNCTION_LINES, node.name)
                    self.assertEqual(node.decorator_list, [], node.name)

    def test_only_the_listed_parts_of_the_language(self):
        for path in files():
            for node in nodes(path):
                self.assertIn(type(node).__name__, ALLOWED_NODES, (path, getattr(node, "lineno", 0)))
                if isinstance(node, ast.Constant):
                    self.assertIn(type(node.value), (int, str, bool, type(None)))
                    self.assertNotIn("%", str(node.value))
                if isinstance(node, ast.Assign):
                    self.assertEqual(len(node.targets), 1, node.lineno)

    def test_only_its_own_modules_are_imported(self):
        for path in files():
            for node in nodes(path):
                if isinstance(node, ast.ImportFrom):
                    self.assertEqual(node.level, 0, path)
                    self.assertTrue(node.module.startswith("againstother."), path)

    def test_only_the_listed_names_of_pythons_own(self):
        for path in files():
            for node in nodes(path):
                if isinstance(node, ast.Name) and hasattr(builtins, node.id):
                    self.assertIn(node.id, ALLOWED_NAMES, (path, node.lineno))

    def test_names_are_plain_and_hide_none_of_pythons_own(self):
        for path in files():
            for name in bound_names(path):
                if name not in SPECIAL_METHODS:
                    self.assertRegex(name, r"^[A-Za-z][A-Za-z0-9_]*$", path)
                    self.assertFalse(hasattr(builtins, name), (path, name))

    def test_methods_are_its_own_or_listed(self):
        own = {name for path in files() for name in bound_names(path)}
        for path in files():
            for node in nodes(path):
                if isinstance(node, ast.Call) and isinstance(node.func, ast.Attribute):
                    self.assertIn(node.func.attr, own | ALLOWED_METHODS, (path, node.lineno))


if __name__ == "__main__":
    unittest.main()
