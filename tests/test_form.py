"""The form of the package's files: those rules of the language that can be read off the text."""

import ast
import builtins
import pathlib
import re
import unittest

PACKAGE = pathlib.Path(__file__).resolve().parent.parent / "sailpassage"

NODES = set("""
Module FunctionDef ClassDef arguments arg Return Assign AugAssign For While If Raise Try ExceptHandler Expr Pass Break
Continue BoolOp And Or BinOp Add Sub Mult FloorDiv Mod Pow LShift RShift BitOr BitXor BitAnd UnaryOp Invert Not USub
Lambda IfExp Dict ListComp comprehension Compare Eq NotEq Lt LtE Gt GtE Is IsNot In NotIn Call keyword JoinedStr
FormattedValue Constant Attribute Subscript Name List Tuple Slice Load Store Set
""".split())

PYTHONS_NAMES = set("""
len range enumerate zip min max sum abs sorted reversed int str bool list tuple dict set frozenset isinstance ord repr
any all divmod Exception ValueError TypeError KeyError IndexError LookupError ZeroDivisionError ArithmeticError
OverflowError RuntimeError NotImplementedError AttributeError StopIteration
""".split())

PYTHONS_METHODS = set("""
append clear copy count endswith extend find get index insert isalnum isalpha isdigit islower isspace isupper items
join keys ljust lower lstrip partition pop remove replace reverse rfind rjust rpartition rsplit rstrip setdefault
split splitlines startswith strip update upper values zfill bit_length
""".split())

WORDS_OUT = re.compile(
    r"\b(type|typing|typing_extensions|enum|Enum|IntEnum|StrEnum|Flag|IntFlag|Generic|Protocol|ABC|ABCMeta|namedtuple"
    r"|NamedTuple|TypedDict|TYPE_CHECKING|abstractmethod)\b|dataclass|overload|contextmanager")

TWO_UNDERSCORES = {"__init__", "__eq__", "__repr__", "__str__", "__len__"}


def bound_names(tree):
    """Every name that the file gives a value to."""
    names = {node.name for node in ast.walk(tree) if isinstance(node, (ast.FunctionDef, ast.ClassDef))}
    names |= {node.arg for node in ast.walk(tree) if isinstance(node, ast.arg)}
    names |= {node.id for node in ast.walk(tree) if isinstance(node, ast.Name) and isinstance(node.ctx, ast.Store)}
    return names


class FormTest(unittest.TestCase):
    def setUp(self):
        self.files = sorted(path for path in PACKAGE.iterdir() if path.name != "__pycache__")
        self.texts = {path.name: path.read_text(encoding="utf-8") for path in self.files}
        self.trees = {name: ast.parse(text) for name, text in self.texts.items()}

    def nodes(self, *kinds):
        return [node for tree in self.trees.values() for node in ast.walk(tree) if isinstance(node, kinds)]

    def test_files(self):
        self.assertEqual([path.name for path in self.files], ["__init__.py", "water.py"])

    def test_text(self):
        for name, text in self.texts.items():
            self.assertRegex(text, r"\A[ -~\n]*\Z", name)
            self.assertIsNone(WORDS_OUT.search(text), name)
            self.assertLessEqual(len(text.splitlines()), 400, name)
            self.assertLessEqual(max(len(line) for line in text.splitlines()), 120, name)

    def test_functions_are_small(self):
        for node in self.nodes(ast.FunctionDef):
            self.assertLessEqual(node.end_lineno - node.lineno + 1, 40, node.name)
            self.assertEqual(node.decorator_list, [], node.name)
            self.assertIsNone(node.args.vararg or node.args.kwarg, node.name)

    def test_only_the_kinds_of_code_that_are_let(self):
        """Imports aren't among them: the interface says that nothing is imported."""
        for node in self.nodes(ast.AST):
            self.assertIn(type(node).__name__, NODES, ast.dump(node))

    def test_values_are_whole_numbers_and_texts(self):
        for node in self.nodes(ast.Constant):
            self.assertIn(type(node.value), (int, str, bool, type(None)), node.value)

    def test_names(self):
        for tree in self.trees.values():
            bound = bound_names(tree)
            for name in bound - TWO_UNDERSCORES:
                self.assertRegex(name, r"\A[A-Za-z][A-Za-z0-9_]*\Z")
                self.assertFalse(hasattr(builtins, name), name)
            read = {node.id for node in ast.walk(tree) if isinstance(node, ast.Name)} - bound
            self.assertLessEqual(read, PYTHONS_NAMES)

    def test_methods(self):
        own = {node.name for node in self.nodes(ast.FunctionDef)}
        for node in self.nodes(ast.Call):
            if isinstance(node.func, ast.Attribute):
                self.assertIn(node.func.attr, PYTHONS_METHODS | own)

    def test_each_name_is_bound_once_at_the_top(self):
        for name, tree in self.trees.items():
            top = [node.name for node in tree.body if isinstance(node, (ast.FunctionDef, ast.ClassDef))]
            top += [node.targets[0].id for node in tree.body if isinstance(node, ast.Assign)]
            self.assertEqual(len(top), len(set(top)), name)

    def test_no_name_is_a_method_and_a_value(self):
        methods = {node.name for kind in self.nodes(ast.ClassDef) for node in kind.body
                   if isinstance(node, ast.FunctionDef)}
        values = {node.attr for node in self.nodes(ast.Attribute) if isinstance(node.ctx, ast.Store)}
        self.assertEqual(methods & values, set())


if __name__ == "__main__":
    unittest.main()
