"""The package keeps to the small part of Python it is written in: what of that can be seen in its files."""

import ast
import builtins
import pathlib
import re
import unittest

import bentwords

FOLDER = pathlib.Path(bentwords.__file__).parent
FILES = sorted(path for path in FOLDER.rglob("*") if path.is_file() and "__pycache__" not in path.parts)
TREES = {path.name: ast.parse(path.read_text()) for path in FILES}

BUILTINS = set("""len range enumerate zip min max sum abs sorted reversed int str bool list tuple dict set frozenset
    isinstance ord repr any all divmod Exception ValueError TypeError KeyError IndexError LookupError
    ZeroDivisionError ArithmeticError OverflowError RuntimeError NotImplementedError AttributeError
    StopIteration""".split())
METHODS = set("""append clear copy count endswith extend find get index insert isalnum isalpha isdigit islower isspace
    isupper items join keys ljust lower lstrip partition pop remove replace reverse rfind rjust rpartition rsplit
    rstrip setdefault split splitlines startswith strip update upper values zfill bit_length""".split())
DUNDERS = {"__init__", "__eq__", "__repr__", "__str__", "__len__"}
WORDS_NOT_USED = re.compile(
    r"\b(type|typing|typing_extensions|enum|Enum|IntEnum|StrEnum|Flag|IntFlag|Generic|Protocol|ABC|ABCMeta|namedtuple"
    r"|NamedTuple|TypedDict|TYPE_CHECKING|abstractmethod)\b|dataclass|overload|contextmanager")
NAMES_NOT_USED = set("""register mro elements open input version_info with_traceback add_note attrgetter breakpoint
    builtins compile copyright credits delattr dir eval exec exit gc getattr globals hasattr help id importlib license
    locals methodcaller os quit setattr super vars sys chr print""".split())
NODES = set("""Module Expr Assign AugAssign If While For Return Break Continue Pass Raise Try ExceptHandler FunctionDef
    ClassDef ImportFrom alias arguments arg Name Attribute Subscript Slice Constant List Tuple Dict Set Call keyword
    Lambda IfExp ListComp comprehension JoinedStr FormattedValue BinOp UnaryOp BoolOp Compare Load Store Add Sub Mult
    FloorDiv Mod Pow LShift RShift BitOr BitXor BitAnd Invert Not USub UAdd And Or Eq NotEq Lt LtE Gt GtE Is IsNot In
    NotIn""".split())


def nodes(*kinds):
    return [(name, node) for name, tree in TREES.items() for node in ast.walk(tree) if isinstance(node, kinds)]


class Files(unittest.TestCase):
    def test_python_files_with_plain_names_alone(self):
        for path in FILES:
            self.assertEqual(path.parent, FOLDER)
            self.assertRegex(path.name, r"^([a-z][a-z0-9_]*|__init__|__main__)\.py$")
            self.assertNotIn(path.stem, dir(builtins))

    def test_signs_and_sizes(self):
        for path in FILES:
            rows = path.read_bytes().decode("ascii").split("\n")
            self.assertLessEqual(len(rows), 400, path.name)
            for number, text in enumerate(rows, 1):
                with self.subTest(file=path.name, line=number):
                    self.assertLessEqual(len(text), 120)
                    self.assertRegex(text, r"^[ -~]*$")
                    self.assertIsNone(WORDS_NOT_USED.search(text))

    def test_functions_have_at_most_40_lines(self):
        for name, node in nodes(ast.FunctionDef):
            self.assertLessEqual(node.end_lineno - node.lineno + 1, 40, f"{name}: {node.name}")


class Code(unittest.TestCase):
    def test_statements_and_expressions(self):
        for name, node in nodes(ast.AST):
            self.assertIn(node.__class__.__name__, NODES, f"{name}: line {getattr(node, 'lineno', '?')}")

    def test_values(self):
        for name, node in nodes(ast.Constant):
            self.assertIn(node.value.__class__, (int, str, bool, type(None)), f"{name}: line {node.lineno}")

    def test_imports_are_the_packages_own(self):
        for name, node in nodes(ast.ImportFrom):
            self.assertEqual(node.level, 0)
            self.assertTrue(node.module.startswith("bentwords."), f"{name}: {node.module}")
            defined = {getattr(top, "name", None) for top in TREES[node.module.split(".")[1] + ".py"].body}
            for drawn in node.names:
                self.assertIsNone(drawn.asname)
                self.assertIn(drawn.name, defined)

    def test_top_of_a_module(self):
        for name, tree in TREES.items():
            self.assertIsNotNone(ast.get_docstring(tree), name)
            for node in tree.body[1:]:
                self.assertIsInstance(node, (ast.ImportFrom, ast.FunctionDef, ast.ClassDef, ast.Assign), name)
                if isinstance(node, ast.Assign):
                    ast.literal_eval(node.value)

    def test_names(self):
        for name, node in nodes(ast.Name):
            if node.id in dir(builtins):
                self.assertIn(node.id, BUILTINS, f"{name}: line {node.lineno}")
                self.assertIsInstance(node.ctx, ast.Load)
            self.assertNotIn(node.id, NAMES_NOT_USED, f"{name}: line {node.lineno}")
            self.assertFalse(node.id.startswith("_"))
        for name, node in nodes(ast.arg):
            self.assertNotIn(node.arg, dir(builtins), f"{name}: line {node.lineno}")
            self.assertIsNone(node.annotation)

    def test_functions(self):
        for name, node in nodes(ast.FunctionDef):
            self.assertEqual(node.decorator_list, [])
            self.assertIsNone(node.returns)
            self.assertIsNone(node.args.vararg or node.args.kwarg)
            self.assertEqual(node.args.kwonlyargs + node.args.posonlyargs, [])
            self.assertTrue(node.name in DUNDERS or not node.name.startswith("_"), f"{name}: {node.name}")

    def test_loops_and_targets(self):
        for name, node in nodes(ast.For, ast.While):
            self.assertEqual(node.orelse, [], f"{name}: line {node.lineno}")
        for name, node in nodes(ast.Assign):
            self.assertEqual(len(node.targets), 1, f"{name}: line {node.lineno}")

    def test_methods_and_values_of_objects(self):
        own = {node.name for name, node in nodes(ast.FunctionDef)}
        stored = {node.attr for name, node in nodes(ast.Attribute) if isinstance(node.ctx, ast.Store)}
        self.assertEqual(own & stored, set())
        for name, node in nodes(ast.Call):
            if isinstance(node.func, ast.Attribute):
                self.assertIn(node.func.attr, METHODS | own, f"{name}: line {node.lineno}")
        pythons = {attr for kind in (str, int, list, dict, set, bytes, tuple) for attr in dir(kind)}
        self.assertEqual(stored & pythons, set())

    def test_is_stands_beside_none_true_and_false(self):
        for name, node in nodes(ast.Compare):
            for operator, right in zip(node.ops, node.comparators):
                if isinstance(operator, (ast.Is, ast.IsNot)):
                    self.assertIsInstance(right, ast.Constant, f"{name}: line {node.lineno}")


if __name__ == "__main__":
    unittest.main()
