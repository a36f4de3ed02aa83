"""The package's files keep to the small part of Python that the project is written in."""

import ast
import re
import unittest
from pathlib import Path

PACKAGE = Path(__file__).resolve().parent.parent / "outlinefill"

STATEMENTS = "Module Import ImportFrom FunctionDef ClassDef Return Assign AugAssign For While If Raise Try Expr Pass " \
    "Break Continue ExceptHandler arguments arg alias keyword"
EXPRESSIONS = "BoolOp BinOp UnaryOp Lambda IfExp List Tuple Dict ListComp comprehension Compare Call JoinedStr " \
    "FormattedValue Constant Attribute Subscript Slice Name Load Store And Or Not Invert USub UAdd"
OPERATORS = "Add Sub Mult FloorDiv Mod Pow BitAnd BitOr BitXor LShift RShift Eq NotEq Lt LtE Gt GtE Is IsNot In NotIn"
NODES = set(f"{STATEMENTS} {EXPRESSIONS} {OPERATORS}".split())

OWN_NAMES = set(
    "len range enumerate zip min max sum abs sorted reversed int str bool list tuple dict set frozenset isinstance "
    "ord repr any all divmod Exception ValueError TypeError KeyError IndexError LookupError ZeroDivisionError "
    "ArithmeticError OverflowError RuntimeError NotImplementedError AttributeError StopIteration".split()
)
METHODS = set(
    "append clear copy count endswith extend find get index insert isalnum isalpha isdigit islower isspace isupper "
    "items join keys ljust lower lstrip partition pop remove replace reverse rfind rjust rpartition rsplit rstrip "
    "setdefault split splitlines startswith strip update upper values zfill bit_length".split()
)
BANNED_NAMES = set(
    "register mro elements open input version_info with_traceback add_note format format_map getattr setattr delattr "
    "hasattr eval exec compile globals locals vars dir id super sys os type chr print".split()
)
BANNED_WORDS = (
    r"\b(type|typing|typing_extensions|enum|Enum|IntEnum|StrEnum|Flag|IntFlag|Generic|Protocol|ABC|ABCMeta"
    r"|namedtuple|NamedTuple|TypedDict|TYPE_CHECKING|abstractmethod)\b|dataclass|overload|contextmanager"
)
PYTHONS_OWN = set(dir(__builtins__)) if not isinstance(__builtins__, dict) else set(__builtins__)
WALKED = set("zip enumerate reversed range".split())
WALKERS = set("list tuple dict sorted sum any all enumerate zip min max".split())
OWN_ATTRIBUTES = {name for kind in (str, int, list, tuple, dict, set, bytes) for name in dir(kind)}


def is_walked(node):
    """Whether a call gives something that must be walked on the spot."""
    if not isinstance(node, ast.Call):
        return False
    if isinstance(node.func, ast.Name):
        return node.func.id in WALKED
    return node.func.attr in ("items", "keys", "values")


def walked_on_the_spot(tree):
    """The nodes that stand where they are walked at once."""
    for node in ast.walk(tree):
        if isinstance(node, (ast.For, ast.comprehension)):
            yield node.iter
        elif isinstance(node, ast.Call) and isinstance(node.func, ast.Name) and node.func.id in WALKERS:
            yield from node.args[:1]


def bound_names(tree):
    """Every name that is given a meaning: defs, parameters and what is assigned."""
    for node in ast.walk(tree):
        if isinstance(node, (ast.FunctionDef, ast.ClassDef)):
            yield node.name
        elif isinstance(node, ast.arg):
            yield node.arg
        elif isinstance(node, ast.Name) and isinstance(node.ctx, ast.Store):
            yield node.id


class TestLanguage(unittest.TestCase):
    def setUp(self):
        paths = sorted(path for path in PACKAGE.rglob("*") if "__pycache__" not in path.parts)
        self.paths = paths
        self.texts = {path: path.read_text(encoding="utf-8") for path in paths}
        self.trees = {path: ast.parse(text) for path, text in self.texts.items()}

    def test_only_plain_files(self):
        self.assertIn(PACKAGE / "picture.py", self.paths)
        self.assertIn(PACKAGE / "__init__.py", self.paths)
        for path in self.paths:
            self.assertRegex(path.name, r"\A[a-z_][a-z0-9_]*\.py\Z")

    def test_signs_and_sizes(self):
        for path, text in self.texts.items():
            self.assertRegex(text, r"\A[ -~\n]*\Z", path)
            self.assertIsNone(re.search(BANNED_WORDS, text), path)
            rows = text.splitlines()
            self.assertLessEqual(len(rows), 400, path)
            self.assertLessEqual(max(len(row) for row in rows), 120, path)

    def test_functions_are_short(self):
        for path, tree in self.trees.items():
            for node in ast.walk(tree):
                if isinstance(node, ast.FunctionDef):
                    self.assertLessEqual(node.end_lineno - node.lineno + 1, 40, f"{path}: {node.name}")
                    self.assertEqual(node.decorator_list, [])

    def test_statements_and_expressions(self):
        for path, tree in self.trees.items():
            for node in ast.walk(tree):
                self.assertIn(node.__class__.__name__, NODES, f"{path}: {getattr(node, 'lineno', '')}")
                if isinstance(node, ast.Assign):
                    self.assertEqual(len(node.targets), 1, path)
                if isinstance(node, (ast.For, ast.While)):
                    self.assertEqual(node.orelse, [], path)
                if isinstance(node, ast.Constant):
                    self.assertNotIsInstance(node.value, (float, bytes, complex), path)

    def test_comprehensions_are_plain(self):
        for path, tree in self.trees.items():
            for node in ast.walk(tree):
                if isinstance(node, ast.ListComp):
                    self.assertEqual(len(node.generators), 1, f"{path}: {node.lineno}")
                    self.assertLessEqual(len(node.generators[0].ifs), 1, f"{path}: {node.lineno}")

    def test_walked_at_once(self):
        for path, tree in self.trees.items():
            allowed = list(walked_on_the_spot(tree))
            for node in ast.walk(tree):
                if is_walked(node):
                    self.assertIn(node, allowed, f"{path}: {node.lineno}")

    def test_no_name_is_a_method_and_a_value(self):
        methods = set()
        stored = set()
        for tree in self.trees.values():
            for node in ast.walk(tree):
                if isinstance(node, ast.ClassDef):
                    methods |= {part.name for part in node.body if isinstance(part, ast.FunctionDef)}
                if isinstance(node, ast.Attribute) and isinstance(node.ctx, ast.Store):
                    stored.add(node.attr)
        self.assertEqual(methods & stored, set())

    def test_imports_are_the_packages_own(self):
        for path, tree in self.trees.items():
            for node in ast.walk(tree):
                self.assertNotIsInstance(node, ast.Import, path)
                if isinstance(node, ast.ImportFrom):
                    self.assertIn(node, tree.body, path)
                    self.assertEqual(node.level, 0, path)
                    self.assertRegex(node.module, r"\Aoutlinefill\.[a-z_]+\Z")

    def test_names(self):
        for path, tree in self.trees.items():
            for name in bound_names(tree):
                if name != "__init__":
                    self.assertRegex(name, r"\A[A-Za-z][A-Za-z0-9_]*\Z", path)
                    self.assertNotIn(name, PYTHONS_OWN, path)
                    self.assertNotIn(name, BANNED_NAMES, path)

    def test_pythons_own_names(self):
        for path, tree in self.trees.items():
            for node in ast.walk(tree):
                if isinstance(node, ast.Name) and node.id in PYTHONS_OWN:
                    self.assertIn(node.id, OWN_NAMES, f"{path}: {node.lineno}")

    def test_methods_and_values(self):
        for path, tree in self.trees.items():
            for node in ast.walk(tree):
                if isinstance(node, ast.Attribute):
                    self.assertNotIn(node.attr, BANNED_NAMES, f"{path}: {node.lineno}")
                    if node.attr in OWN_ATTRIBUTES:
                        self.assertIn(node.attr, METHODS, f"{path}: {node.lineno}")


if __name__ == "__main__":
    unittest.main()
