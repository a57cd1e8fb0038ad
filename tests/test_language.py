"""The part of LANGUAGE.md that can be seen in the written form, on each file of the package."""
import ast
import builtins
import pathlib
import re
import unittest

PACKAGE = pathlib.Path(__file__).resolve().parent.parent / "nearestsites"

KINDS = set("""
Module FunctionDef ClassDef arguments arg Expr Assign AugAssign If While For Return Break Continue Pass Raise
Constant Name Attribute Subscript Slice Call keyword List Tuple Dict ListComp comprehension IfExp Compare BoolOp
BinOp UnaryOp JoinedStr FormattedValue Lambda Load Store Add Sub Mult FloorDiv Mod Pow And Or Not USub UAdd Invert
BitAnd BitOr BitXor LShift RShift Eq NotEq Lt LtE Gt GtE Is IsNot In NotIn
""".split())
OWN_NAMES = set("""
len range enumerate zip min max sum abs sorted reversed int str bool list tuple dict set frozenset isinstance ord
repr any all divmod True False None
""".split())
METHODS = set("""
append clear copy count endswith extend find get index insert isalnum isalpha isdigit islower isspace isupper items
join keys ljust lower lstrip partition pop remove replace reverse rfind rjust rpartition rsplit rstrip setdefault
split splitlines startswith strip update upper values zfill bit_length
""".split())
WORDS = re.compile(
    r"\b(type|typing|typing_extensions|enum|Enum|IntEnum|StrEnum|Flag|IntFlag|Generic|Protocol|ABC|ABCMeta|namedtuple"
    r"|NamedTuple|TypedDict|TYPE_CHECKING|abstractmethod)\b|dataclass|overload|contextmanager")


def files():
    return [path for path in sorted(PACKAGE.rglob("*")) if "__pycache__" not in path.parts]


def walked():
    for path in files():
        for node in ast.walk(ast.parse(path.read_text())):
            yield path, node


class Language(unittest.TestCase):
    def test_files(self):
        self.assertEqual([path.name for path in files()], ["__init__.py", "land.py"])

    def test_signs_and_sizes(self):
        for path in files():
            data = path.read_bytes()
            self.assertTrue(all(32 <= sign <= 126 or sign == 10 for sign in data), path)
            lines = data.decode().split("\n")
            self.assertLessEqual(len(lines), 400, path)
            self.assertLessEqual(max(len(line) for line in lines), 120, path)
            self.assertIsNone(WORDS.search(data.decode()), path)

    def test_kinds_of_steps(self):
        # No import is among them: the program stands on its own.
        for path, node in walked():
            self.assertIn(node.__class__.__name__, KINDS, (path, getattr(node, "lineno", 0)))

    def test_functions(self):
        for path, node in walked():
            if isinstance(node, ast.FunctionDef):
                self.assertLessEqual(node.end_lineno - node.lineno + 1, 40, (path, node.name))
                self.assertEqual(node.decorator_list, [])
                self.assertFalse(node.args.vararg or node.args.kwarg or node.args.kwonlyargs, (path, node.name))

    def test_names(self):
        for path, node in walked():
            if isinstance(node, ast.Name):
                bound = isinstance(node.ctx, ast.Store)
                self.assertFalse(node.id.startswith("_"), (path, node.lineno))
                if hasattr(builtins, node.id):
                    self.assertFalse(bound, (path, node.lineno))
                    self.assertIn(node.id, OWN_NAMES, (path, node.lineno))
            if isinstance(node, ast.arg):
                self.assertFalse(node.arg.startswith("_") or hasattr(builtins, node.arg) and node.arg != "self")

    def test_methods(self):
        own = {node.name for path, node in walked() if isinstance(node, ast.FunctionDef)}
        for path, node in walked():
            if isinstance(node, ast.Call) and isinstance(node.func, ast.Attribute):
                self.assertIn(node.func.attr, METHODS | own, (path, node.lineno))

    def test_assignments_and_comparisons(self):
        for path, node in walked():
            if isinstance(node, ast.Assign):
                self.assertEqual(len(node.targets), 1, (path, node.lineno))
            if isinstance(node, (ast.For, ast.While)):
                self.assertEqual(node.orelse, [], (path, node.lineno))
            if isinstance(node, ast.Constant):
                self.assertIsInstance(node.value, (int, str, type(None)), (path, node.lineno))
            if isinstance(node, ast.Compare) and any(isinstance(op, (ast.Is, ast.IsNot)) for op in node.ops):
                self.assertIn(node.comparators[-1].value, (None, True, False), (path, node.lineno))


if __name__ == "__main__":
    unittest.main()
