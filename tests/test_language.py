"""What a test can see of the rules of form that the package keeps to."""

import ast
import builtins
import os
import re
import unittest

import exactraws

FOLDER = os.path.dirname(exactraws.__file__)

ALLOWED_NODES = set(
    "Module Expr Assign AugAssign If While For Return Break Continue Pass Raise Try ExceptHandler Call ImportFrom alias "
    "FunctionDef ClassDef arguments arg keyword Name Attribute Subscript Slice Constant List Tuple Dict Load Store "
    "BinOp UnaryOp BoolOp Compare IfExp Lambda ListComp comprehension JoinedStr FormattedValue "
    "Add Sub Mult FloorDiv Mod Pow BitAnd BitOr BitXor LShift RShift USub Invert Not And Or "
    "Eq NotEq Lt LtE Gt GtE In NotIn Is IsNot".split()
)

ALLOWED_BUILTINS = set(
    "len range enumerate zip min max sum abs sorted reversed int str bool list tuple dict set frozenset isinstance ord "
    "repr any all divmod ValueError KeyError IndexError LookupError ZeroDivisionError ArithmeticError OverflowError "
    "RuntimeError NotImplementedError StopIteration Exception TypeError AttributeError".split()
)

UNUSED_WORDS = re.compile(
    r"\b(type|typing|typing_extensions|enum|Enum|IntEnum|StrEnum|Flag|IntFlag|Generic|Protocol|ABC|ABCMeta|namedtuple|"
    r"NamedTuple|TypedDict|TYPE_CHECKING|abstractmethod)\b|dataclass|overload|contextmanager"
)


def package_files():
    files = {}
    for entry in sorted(os.listdir(FOLDER)):
        if entry != "__pycache__":
            with open(os.path.join(FOLDER, entry), encoding="utf-8", newline="") as file:
                files[entry] = file.read()
    return files


def bound_names(tree):
    for node in ast.walk(tree):
        if isinstance(node, ast.Name) and isinstance(node.ctx, ast.Store):
            yield node.id
        elif isinstance(node, ast.arg):
            yield node.arg
        elif isinstance(node, (ast.FunctionDef, ast.ClassDef)):
            yield node.name


class Language(unittest.TestCase):
    def test_files(self):
        for entry in package_files():
            self.assertRegex(entry, r"^(__init__|[a-z][a-z0-9_]*)\.py$")

    def test_signs_words_and_sizes(self):
        for entry, source in package_files().items():
            self.assertRegex(source, r"\A[ -~\n]*\Z", entry)
            self.assertIsNone(UNUSED_WORDS.search(source), entry)
            rows = source.split("\n")
            self.assertLessEqual(len(rows), 400, entry)
            self.assertLessEqual(max(len(row) for row in rows), 120, entry)

    def test_nodes(self):
        for entry, source in package_files().items():
            for node in ast.walk(ast.parse(source)):
                place = (entry, getattr(node, "lineno", None), type(node).__name__)
                self.assertIn(type(node).__name__, ALLOWED_NODES, place)
                if isinstance(node, ast.Constant):
                    self.assertIn(type(node.value), (int, str, bool, type(None)), place)
                if isinstance(node, ast.Assign):
                    self.assertEqual(len(node.targets), 1, place)
                if isinstance(node, ast.FunctionDef):
                    self.assertLessEqual(node.end_lineno - node.lineno + 1, 40, place)
                    self.assertEqual(node.decorator_list, [], place)
                if isinstance(node, ast.BinOp) and isinstance(node.op, ast.Pow):
                    self.assertIsInstance(node.right, ast.Constant, place)

    def test_names(self):
        for entry, source in package_files().items():
            tree = ast.parse(source)
            for bound in bound_names(tree):
                self.assertRegex(bound, r"^[A-Za-z][A-Za-z0-9_]*$|^__(init|eq|repr|str|len)__$", entry)
                self.assertFalse(hasattr(builtins, bound), (entry, bound))
            for node in ast.walk(tree):
                if isinstance(node, ast.Name) and hasattr(builtins, node.id):
                    self.assertIn(node.id, ALLOWED_BUILTINS, (entry, node.lineno))

    def test_imports(self):
        files = package_files()
        for entry, source in files.items():
            for node in ast.walk(ast.parse(source)):
                if isinstance(node, ast.ImportFrom):
                    self.assertEqual(node.level, 0, entry)
                    self.assertRegex(node.module, r"^exactraws\.[a-z_0-9]+$", entry)
                    origin = ast.parse(files[node.module.split(".")[1] + ".py"])
                    for drawn in node.names:
                        self.assertIn(drawn.name, list(bound_names(origin)), entry)


if __name__ == "__main__":
    unittest.main()
