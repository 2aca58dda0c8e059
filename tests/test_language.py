"""What a test can see of the rules of form that the package keeps to."""

import ast
import builtins
import os
import re
import unittest

import exactraws

FOLDER = os.path.dirname(exactraws.__file__)

ALLOWED_NODES = set(
    "Module Expr Assign AugAssign If While For Return Break Continue Pass Raise Try ExceptHandler Call ImportFrom alias "
    "FunctionDef ClassDef arguments arg keyword Name Attribute Subscript Slice Constant List Tuple Dict Load Store "
    "BinOp UnaryOp BoolOp Compare IfExp Lambda ListComp comprehension JoinedStr FormattedValue "
    "Add Sub Mult FloorDiv Mod Pow BitAnd BitOr BitXor LShift RShift USub Invert Not And Or "
    "Eq NotEq Lt LtE Gt GtE In NotIn Is IsNot".split()
)

ALLOWED_BUILTINS = set(
    "len range enumerate zip min max sum abs sorted reversed int str bool list tuple dict set frozenset isinstance ord "
    "repr any all divmod ValueError KeyError IndexError LookupError ZeroDivisionError ArithmeticError OverflowError "
    "RuntimeError NotImplementedError StopIteration Exception TypeError AttributeError".split()
)

# The methods of Python's own values that may be called.
ALLOWED_METHODS = set(
    "append clear copy count endswith extend find get index insert isalnum isalpha isdigit islower isspace isupper items "
    "join keys ljust lower lstrip partition pop remove replace reverse rfind rjust rpartition rsplit rstrip setdefault "
    "split splitlines startswith strip update upper values zfill bit_length".split()
)

UNUSED_NAMES = set(
    "register mro elements open input version_info with_traceback add_note attrgetter breakpoint builtins compile "
    "copyright credits delattr dir eval exec exit gc getattr globals hasattr help id importlib license locals "
    "methodcaller os quit setattr super type vars sys chr float bytes print".split()
)

UNUSED_WORDS = re.compile(
    r"\b(type|typing|typing_extensions|enum|Enum|IntEnum|StrEnum|Flag|IntFlag|Generic|Protocol|ABC|ABCMeta|namedtuple|"
    r"NamedTuple|TypedDict|TYPE_CHECKING|abstractmethod)\b|dataclass|overload|contextmanager"
)


def package_files():
    files = {}
    for entry in sorted(os.listdir(FOLDER)):
        if entry != "__pycache__":
            with open(os.path.join(FOLDER, entry), encoding="utf-8", newline="") as file:
                files[entry] = file.read()
    return files


def bound_names(tree):
    for node in ast.walk(tree):
        if isinstance(node, ast.Name) and isinstance(node.ctx, ast.Store):
            yield node.id
        elif isinstance(node, ast.arg):
            yield node.arg
        elif isinstance(node, (ast.FunctionDef, ast.ClassDef)):
            yield node.name


class Language(unittest.TestCase):
    def test_files(self):
        for entry in package_files():
            self.assertRegex(entry, r"^(__init__|[a-z][a-z0-9_]*)\.py$")

    def test_signs_words_and_sizes(self):
        for entry, source in package_files().items():
            self.assertRegex(source, r"\A[ -~\n]*\Z", entry)
            self.assertIsNone(UNUSED_WORDS.search(source), entry)
            rows = source.split("\n")
            self.assertLessEqual(len(rows), 400, entry)
            self.assertLessEqual(max(len(row) for row in rows), 120, entry)

    def test_nodes(self):
        for entry, source in package_files().items():
            for node in ast.walk(ast.parse(source)):
                place = (entry, getattr(node, "lineno", None), type(node).__name__)
                self.assertIn(type(node).__name__, ALLOWED_NODES, place)
                if isinstance(node, ast.Constant):
                    self.assertIn(type(node.value), (int, str, bool, type(None)), place)
                if isinstance(node, ast.Assign):
                    self.assertEqual(len(node.targets), 1, place)
                if isinstance(node, ast.FunctionDef):
                    self.assertLessEqual(node.end_lineno - node.lineno + 1, 40, place)
                    self.assertEqual(node.decorator_list, [], place)
                if isinstance(node, ast.BinOp) and isinstance(node.op, ast.Pow):
                    self.assertIsInstance(node.right, ast.Constant, place)

    def test_names(self):
        for entry, source in package_files().items():
            tree = ast.parse(source)
            for bound in bound_names(tree):
                self.assertRegex(bound, r"^[A-Za-z][A-Za-z0-9_]*$|^__(init|eq|repr|str|len)__$", entry)
                if not bound.startswith("__"):
                    self.assertFalse(hasattr(builtins, bound), (entry, bound))
            for node in ast.walk(tree):
                if isinstance(node, ast.Name) and hasattr(builtins, node.id):
                    self.assertIn(node.id, ALLOWED_BUILTINS, (entry, node.lineno))

    def test_no_parameter_and_no_local_is_called_like_an_import_or_a_class(self):
        for entry, source in package_files().items():
            tree = ast.parse(source)
            taken = [row.name for row in tree.body if isinstance(row, ast.ClassDef)]
            for row in tree.body:
                if isinstance(row, ast.ImportFrom):
                    taken += [drawn.name for drawn in row.names]
            for row in tree.body:
                if isinstance(row, (ast.FunctionDef, ast.ClassDef)):
                    for bound in bound_names(row):
                        if bound != row.name:
                            self.assertNotIn(bound, taken, (entry, row.name))

    def test_each_name_is_bound_once_at_the_top(self):
        for entry, source in package_files().items():
            seen = []
            for row in ast.parse(source).body:
                if isinstance(row, (ast.FunctionDef, ast.ClassDef)):
                    seen.append(row.name)
                elif isinstance(row, ast.ImportFrom):
                    seen += [drawn.asname or drawn.name for drawn in row.names]
                elif isinstance(row, ast.Assign):
                    seen += [target.id for target in row.targets]
                else:
                    self.assertIsInstance(row, ast.Expr, (entry, row.lineno))
                    self.assertIsInstance(row.value.value, str, (entry, row.lineno))
            self.assertEqual(sorted(seen), sorted(set(seen)), entry)

    def test_values_at_the_top_are_plain(self):
        for entry, source in package_files().items():
            for row in ast.parse(source).body:
                if isinstance(row, ast.Assign):
                    # literal_eval refuses names, calls and reckoning.
                    ast.literal_eval(row.value)

    def test_methods_and_values_of_objects(self):
        own = set()
        for source in package_files().values():
            for node in ast.walk(ast.parse(source)):
                if isinstance(node, ast.ClassDef):
                    own.update(row.name for row in node.body if isinstance(row, ast.FunctionDef))
                if isinstance(node, ast.Attribute) and isinstance(node.ctx, ast.Store):
                    own.add(node.attr)
        for kind in (str, int, list, dict, set, bytes, tuple):
            self.assertEqual([word for word in own if hasattr(kind, word) and not word.startswith("__")], [])
        for entry, source in package_files().items():
            for node in ast.walk(ast.parse(source)):
                if isinstance(node, ast.Attribute):
                    self.assertIn(node.attr, own | ALLOWED_METHODS, (entry, node.lineno))

    def test_names_texts_and_comparisons_that_are_not_used(self):
        for entry, source in package_files().items():
            for node in ast.walk(ast.parse(source)):
                if isinstance(node, ast.Name):
                    self.assertNotIn(node.id, UNUSED_NAMES, (entry, node.lineno))
                if isinstance(node, ast.Constant) and isinstance(node.value, str):
                    self.assertNotIn("%", node.value, (entry, node.lineno))
                if isinstance(node, ast.Compare) and isinstance(node.ops[0], (ast.Is, ast.IsNot)):
                    self.assertIsInstance(node.comparators[0], ast.Constant, (entry, node.lineno))

    def test_no_two_files_draw_from_one_another(self):
        draws = {}
        for entry, source in package_files().items():
            rows = [row for row in ast.parse(source).body if isinstance(row, ast.ImportFrom)]
            draws[entry] = {row.module.split(".")[1] + ".py" for row in rows}
        while draws:
            free = [entry for entry in draws if not draws[entry] & set(draws)]
            self.assertNotEqual(free, [], draws)
            for entry in free:
                del draws[entry]

    def test_imports(self):
        files = package_files()
        for entry, source in files.items():
            for node in ast.walk(ast.parse(source)):
                if isinstance(node, ast.ImportFrom):
                    self.assertEqual(node.level, 0, entry)
                    self.assertRegex(node.module, r"^exactraws\.[a-z_0-9]+$", entry)
                    origin = ast.parse(files[node.module.split(".")[1] + ".py"])
                    for drawn in node.names:
                        self.assertIn(drawn.name, list(bound_names(origin)), entry)


if __name__ == "__main__":
    unittest.main()
