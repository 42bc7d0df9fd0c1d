"""The package keeps to its small part of Python: the rules that can be seen file by file."""

import ast
import pathlib
import re
import unittest

PACKAGE = pathlib.Path(__file__).resolve().parent.parent / "tanglemoves"
FILES = sorted(PACKAGE.glob("*.py"))

NODES = """
Module FunctionDef ClassDef ImportFrom Assign AugAssign If While For Return Break Continue Pass Raise
Try ExceptHandler Expr Name Constant Tuple List Dict Attribute Subscript Slice Call BinOp UnaryOp BoolOp
Compare IfExp ListComp comprehension Lambda keyword arguments arg alias Load Store JoinedStr FormattedValue
Add Sub Mult FloorDiv Mod Pow BitAnd BitOr BitXor LShift RShift Invert And Or Not USub
Eq NotEq Lt LtE Gt GtE Is IsNot In NotIn
""".split()
BUILT_IN = """
len range enumerate zip min max sum abs sorted reversed int str bool list tuple dict set frozenset
isinstance ord repr any all divmod Exception ValueError TypeError KeyError IndexError LookupError
ZeroDivisionError ArithmeticError OverflowError RuntimeError NotImplementedError AttributeError
StopIteration
""".split()
METHODS = """
append clear copy count endswith extend find get index insert isalnum isalpha isdigit islower isspace
isupper items join keys ljust lower lstrip partition pop remove replace reverse rfind rjust rpartition
rsplit rstrip setdefault split splitlines startswith strip update upper values zfill bit_length
""".split()
BANNED_NAMES = """
register mro elements open input version_info with_traceback add_note attrgetter breakpoint builtins
compile copyright credits delattr dir eval exec exit gc getattr globals hasattr help id importlib license
locals methodcaller os quit setattr super type vars sys format format_map args
""".split()
BANNED_WORDS = re.compile(
    r"\b(type|typing|typing_extensions|enum|Enum|IntEnum|StrEnum|Flag|IntFlag|Generic|Protocol|ABC|ABCMeta"
    r"|namedtuple|NamedTuple|TypedDict|TYPE_CHECKING|abstractmethod)\b|dataclass|overload|contextmanager")


def trees():
    return [(path, ast.parse(path.read_text("ascii"))) for path in FILES]


def bound_names(tree):
    """The names that a file's own top binds."""
    names = [node.name for node in tree.body if isinstance(node, (ast.FunctionDef, ast.ClassDef))]
    return names + [target.id for node in tree.body if isinstance(node, ast.Assign)
                    for target in node.targets]


class Files(unittest.TestCase):
    def test_names_of_files(self):
        self.assertIn(PACKAGE / "desk.py", FILES)
        for path in PACKAGE.iterdir():
            if path.name != "__pycache__":
                self.assertRegex(path.name, r"^([a-z][a-z0-9_]*|__init__)\.py$")
                self.assertNotRegex(path.name, r"^(test|conftest|site)")

    def test_sizes_and_signs(self):
        for path in FILES:
            rows = path.read_text("ascii").split("\n")
            self.assertLessEqual(len(rows), 399, path)
            for row in rows:
                self.assertRegex(row, r"^[ -~]{0,120}$", path)
                self.assertNotRegex(row, BANNED_WORDS, path)

    def test_functions_are_short(self):
        for path, tree in trees():
            for node in ast.walk(tree):
                if isinstance(node, ast.FunctionDef):
                    self.assertLessEqual(node.end_lineno - node.lineno + 1, 40, (path, node.name))
                    self.assertEqual(node.decorator_list, [], (path, node.name))

    def test_docstrings(self):
        for path, tree in trees():
            self.assertTrue(ast.get_docstring(tree), path)

    def test_the_interface(self):
        tree = dict(trees())[PACKAGE / "desk.py"]
        found = [node for node in tree.body if getattr(node, "name", "") == "answers"]
        self.assertEqual([ast.unparse(node.args) for node in found], ["calls"])


class Imports(unittest.TestCase):
    def test_only_the_package_s_own_names(self):
        tops = {"tanglemoves." + path.stem: bound_names(tree) for path, tree in trees()}
        for path, tree in trees():
            for node in ast.walk(tree):
                if isinstance(node, ast.ImportFrom):
                    self.assertEqual(node.level, 0, path)
                    for alias in node.names:
                        self.assertIn(alias.name, tops.get(node.module, []), path)

    def test_no_two_files_draw_from_one_another(self):
        drawn = {"tanglemoves." + path.stem: {node.module for node in ast.walk(tree)
                                              if isinstance(node, ast.ImportFrom)}
                 for path, tree in trees()}
        while drawn:
            free = [name for name, others in drawn.items() if not others & set(drawn)]
            self.assertTrue(free, drawn)
            for name in free:
                del drawn[name]


class Language(unittest.TestCase):
    def test_statements_and_values(self):
        for path, tree in trees():
            for node in ast.walk(tree):
                self.assertIn(type(node).__name__, NODES, (path, getattr(node, "lineno", 0)))
                if isinstance(node, ast.Constant):
                    self.assertIn(type(node.value), (int, str, bool, type(None)), path)
                if isinstance(node, ast.Assign):
                    self.assertEqual(len(node.targets), 1, (path, node.lineno))
                    self.assertNotIsInstance(node.targets[0], (ast.Tuple, ast.List), (path, node.lineno))
                if isinstance(node, (ast.For, ast.While, ast.Try)):
                    self.assertFalse(getattr(node, "finalbody", []), (path, node.lineno))
                if isinstance(node, (ast.For, ast.While)):
                    self.assertEqual(node.orelse, [], (path, node.lineno))

    def test_names(self):
        for path, tree in trees():
            known = set(BUILT_IN) | set(bound_names(tree))
            bound = set()
            for node in ast.walk(tree):
                if isinstance(node, ast.alias):
                    known.add(node.name)
                elif isinstance(node, ast.arg):
                    bound.add(node.arg)
                elif isinstance(node, ast.ExceptHandler) and node.name:
                    bound.add(node.name)
                elif isinstance(node, ast.Name) and isinstance(node.ctx, ast.Store):
                    bound.add(node.id)
            for node in ast.walk(tree):
                if isinstance(node, ast.Name):
                    self.assertRegex(node.id, r"^[A-Za-z][A-Za-z0-9_]*$", path)
                    self.assertIn(node.id, known | bound, (path, node.lineno))
                    self.assertNotIn(node.id, BANNED_NAMES, (path, node.lineno))
            self.assertEqual(bound & (known - set(bound_names(tree))), set(), path)

    def test_methods_and_values(self):
        own = {"__init__"}
        for _, tree in trees():
            for node in ast.walk(tree):
                if isinstance(node, ast.ClassDef):
                    own |= {part.name for part in node.body if isinstance(part, ast.FunctionDef)}
                if isinstance(node, ast.Attribute) and isinstance(node.ctx, ast.Store):
                    own.add(node.attr)
        for path, tree in trees():
            for node in ast.walk(tree):
                if isinstance(node, ast.Attribute):
                    self.assertIn(node.attr, own | set(METHODS), (path, node.lineno))
                    self.assertNotIn(node.attr, BANNED_NAMES, (path, node.lineno))
        free = own - {"__init__"}
        python_own = {name for kind in (str, int, list, dict, set, bytes) for name in dir(kind)}
        self.assertEqual(free & python_own, set())


if __name__ == "__main__":
    unittest.main()
