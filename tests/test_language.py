"""The package keeps to the small part of Python it is written in: what of that can be seen in its files."""

import ast
import builtins
import pathlib
import re
import unittest

import bentwords

FOLDER = pathlib.Path(bentwords.__file__).parent
FILES = sorted(path for path in FOLDER.rglob("*") if path.is_file() and "__pycache__" not in path.parts)
TREES = {path.name: ast.parse(path.read_text()) for path in FILES}

BUILTINS = set("""len range enumerate zip min max sum abs sorted reversed int str bool list tuple dict set frozenset
    isinstance ord repr any all divmod Exception ValueError TypeError KeyError IndexError LookupError
    ZeroDivisionError ArithmeticError OverflowError RuntimeError NotImplementedError AttributeError
    StopIteration""".split())
METHODS = set("""append clear copy count endswith extend find get index insert isalnum isalpha isdigit islower isspace
    isupper items join keys ljust lower lstrip partition pop remove replace reverse rfind rjust rpartition rsplit
    rstrip setdefault split splitlines startswith strip update upper values zfill bit_length""".split())
CHANGES = set("append clear extend insert pop remove reverse setdefault update".split())
DUNDERS = {"__init__", "__eq__", "__repr__", "__str__", "__len__"}
WORDS_NOT_USED = re.compile(
    r"\b(type|typing|typing_extensions|enum|Enum|IntEnum|StrEnum|Flag|IntFlag|Generic|Protocol|ABC|ABCMeta|namedtuple"
    r"|NamedTuple|TypedDict|TYPE_CHECKING|abstractmethod)\b|dataclass|overload|contextmanager")
NAMES_NOT_USED = set("""register mro elements open input version_info with_traceback add_note attrgetter breakpoint
    builtins compile copyright credits delattr dir eval exec exit gc getattr globals hasattr help id importlib license
    locals methodcaller os quit setattr super vars sys chr print""".split())
# Errors, lambdas, f-strings and sets are not needed: where there are none, the rules on them hold.
NODES = set("""Module Expr Assign AugAssign If While For Return Break Continue Pass FunctionDef ClassDef ImportFrom alias
    arguments arg Name Attribute Subscript Slice Constant List Tuple Dict Call IfExp ListComp comprehension BinOp UnaryOp
    BoolOp Compare Load Store Add Sub Mult FloorDiv Mod LShift RShift BitOr BitXor BitAnd Invert Not USub UAdd And Or Eq
    NotEq Lt LtE Gt GtE Is IsNot In NotIn""".split())


def nodes(*kinds):
    return [(name, node) for name, tree in TREES.items() for node in ast.walk(tree) if isinstance(node, kinds)]


def drawn_file(node):
    return node.module.split(".")[1] + ".py"


def defined_at_top(name):
    """The functions, classes and values of a file, as often as they are bound there."""
    defined = []
    for node in TREES[name].body:
        if isinstance(node, (ast.FunctionDef, ast.ClassDef)):
            defined.append(node.name)
        if isinstance(node, ast.Assign):
            defined.append(node.targets[0].id)
    return defined


def bound_within(def_node):
    """Parameters and locals."""
    stored = {node.id for node in ast.walk(def_node) if isinstance(node, ast.Name) and isinstance(node.ctx, ast.Store)}
    return stored | {node.arg for node in ast.walk(def_node) if isinstance(node, ast.arg)}


def root_name(node):
    while isinstance(node, (ast.Attribute, ast.Subscript)):
        node = node.value
    return getattr(node, "id", None)


class Files(unittest.TestCase):
    def test_python_files_with_plain_names_alone(self):
        for path in FILES:
            self.assertEqual(path.parent, FOLDER)
            self.assertRegex(path.name, r"^([a-z][a-z0-9_]*|__init__|__main__)\.py$")
            self.assertNotIn(path.stem, dir(builtins))

    def test_names_that_no_file_has(self):
        for path in FILES:
            self.assertIsNone(WORDS_NOT_USED.search(path.stem))
            self.assertNotRegex(path.stem, r"^(tests?|testing|test_.*|site|conftest|sitecustomize|usercustomize)$")

    def test_signs_and_sizes(self):
        for path in FILES:
            rows = path.read_bytes().decode("ascii").split("\n")
            self.assertLessEqual(len(rows), 400, path.name)
            for number, text in enumerate(rows, 1):
                with self.subTest(file=path.name, line=number):
                    self.assertLessEqual(len(text), 120)
                    self.assertRegex(text, r"^[ -~]*$")
                    self.assertIsNone(WORDS_NOT_USED.search(text))

    def test_functions_have_at_most_40_lines(self):
        for name, node in nodes(ast.FunctionDef):
            self.assertLessEqual(node.end_lineno - node.lineno + 1, 40, f"{name}: {node.name}")


class Code(unittest.TestCase):
    def test_statements_and_expressions(self):
        for name, node in nodes(ast.AST):
            self.assertIn(node.__class__.__name__, NODES, f"{name}: line {getattr(node, 'lineno', '?')}")

    def test_values(self):
        for name, node in nodes(ast.Constant):
            self.assertIn(node.value.__class__, (int, str, bool, type(None)), f"{name}: line {node.lineno}")

    def test_imports_are_the_packages_own(self):
        for name, node in nodes(ast.ImportFrom):
            self.assertIn(node, TREES[name].body, f"{name}: line {node.lineno}")
            self.assertEqual(node.level, 0)
            self.assertTrue(node.module.startswith("bentwords."), f"{name}: {node.module}")
            for drawn in node.names:
                self.assertIsNone(drawn.asname)
                self.assertIn(drawn.name, defined_at_top(drawn_file(node)))

    def test_no_two_files_draw_from_one_another(self):
        drawn = {name: {drawn_file(node) for other, node in nodes(ast.ImportFrom) if other == name} for name in TREES}
        self.assertEqual(drawn["__init__.py"], set())
        while drawn:
            free = {name for name, others in drawn.items() if not others & set(drawn)}
            self.assertNotEqual(free, set(), f"these draw from one another: {sorted(drawn)}")
            drawn = {name: others for name, others in drawn.items() if name not in free}

    def test_names_of_the_top_are_bound_once_and_not_again_within(self):
        for name, tree in TREES.items():
            drawn = [alias.name for node in tree.body if isinstance(node, ast.ImportFrom) for alias in node.names]
            at_top = defined_at_top(name) + drawn
            self.assertEqual(len(at_top), len(set(at_top)), name)
            classes = {node.name for node in tree.body if isinstance(node, ast.ClassDef)}
            for def_node in [node for node in ast.walk(tree) if isinstance(node, ast.FunctionDef)]:
                self.assertEqual(bound_within(def_node) & (classes | set(drawn)), set(), f"{name}: {def_node.name}")
                for node in ast.walk(def_node):
                    if isinstance(node, (ast.Attribute, ast.Subscript)) and isinstance(node.ctx, ast.Store):
                        self.assertIn(root_name(node), bound_within(def_node), f"{name}: line {node.lineno}")

    def test_top_of_a_module(self):
        for name, tree in TREES.items():
            self.assertIsNotNone(ast.get_docstring(tree), name)
            for node in tree.body[1:]:
                self.assertIsInstance(node, (ast.ImportFrom, ast.FunctionDef, ast.ClassDef, ast.Assign), name)
                if isinstance(node, ast.Assign):
                    # No list and no dict: what can't be changed needs no looking after.
                    self.assertIn(ast.literal_eval(node.value).__class__, (int, str, bool, tuple), name)

    def test_names(self):
        for name, node in nodes(ast.Name):
            if node.id in dir(builtins):
                self.assertIn(node.id, BUILTINS, f"{name}: line {node.lineno}")
                self.assertIsInstance(node.ctx, ast.Load)
            self.assertNotIn(node.id, NAMES_NOT_USED, f"{name}: line {node.lineno}")
            self.assertFalse(node.id.startswith("_"))
        for name, node in nodes(ast.arg):
            self.assertNotIn(node.arg, dir(builtins), f"{name}: line {node.lineno}")
            self.assertIsNone(node.annotation)

    def test_functions(self):
        for name, node in nodes(ast.FunctionDef):
            self.assertEqual(node.decorator_list, [])
            self.assertIsNone(node.returns)
            self.assertIsNone(node.args.vararg or node.args.kwarg)
            self.assertEqual(node.args.kwonlyargs + node.args.posonlyargs, [])
            self.assertEqual(node.args.defaults, [], f"{name}: {node.name}")
            within = [inner for inner in ast.walk(node) if isinstance(inner, ast.FunctionDef)]
            self.assertEqual(within, [node], f"{name}: {node.name}")
            self.assertTrue(node.name in DUNDERS or not node.name.startswith("_"), f"{name}: {node.name}")

    def test_classes(self):
        for name, node in nodes(ast.ClassDef):
            self.assertIn(node, TREES[name].body)
            self.assertEqual(node.decorator_list + node.keywords + node.bases, [])
            methods = [part.name for part in node.body if isinstance(part, ast.FunctionDef)]
            self.assertEqual(len(methods), len(set(methods)), f"{name}: {node.name}")
            self.assertEqual(len(methods) + (ast.get_docstring(node) is not None), len(node.body), f"{name}: {node.name}")
            for part in node.body[-len(methods):]:
                # Of the methods with two underscores this one alone is needed, and it gives back nothing.
                if part.name.startswith("__"):
                    self.assertEqual(part.name, "__init__")
                    self.assertFalse([inner for inner in ast.walk(part) if isinstance(inner, ast.Return)])

    def test_no_sets(self):
        for name, node in nodes(ast.Name):
            self.assertNotIn(node.id, ("set", "frozenset"), f"{name}: line {node.lineno}")

    def test_comprehensions(self):
        for name, node in nodes(ast.ListComp):
            self.assertEqual(len(node.generators), 1, f"{name}: line {node.lineno}")
            self.assertLessEqual(len(node.generators[0].ifs), 1, f"{name}: line {node.lineno}")

    def test_texts(self):
        for name, node in nodes(ast.Constant):
            if isinstance(node.value, str):
                self.assertRegex(node.value, r"^[ -$&-~\n]*$", f"{name}: line {node.lineno}")

    def test_what_is_walked_at_once(self):
        walked = ("zip", "enumerate", "reversed", "range")
        for name, node in nodes(ast.Call):
            called = node.func.id if isinstance(node.func, ast.Name) else node.func.attr
            self.assertNotIn(called, ("items", "keys", "values"), f"{name}: line {node.lineno}")
            self.assertEqual(node.keywords, [], f"{name}: line {node.lineno}")
        for name, tree in TREES.items():
            on_the_spot = [node.iter for node in ast.walk(tree) if isinstance(node, (ast.For, ast.comprehension))]
            for node in ast.walk(tree):
                if isinstance(node, ast.Call) and isinstance(node.func, ast.Name) and node.func.id in walked:
                    self.assertIn(node, on_the_spot, f"{name}: line {node.lineno}")

    def test_what_is_walked_is_not_changed(self):
        for name, node in nodes(ast.For):
            walked = {ast.unparse(part) for part in ast.walk(node.iter) if isinstance(part, (ast.Name, ast.Attribute))}
            for inner in [part for step in node.body for part in ast.walk(step)]:
                if isinstance(inner, ast.Call) and isinstance(inner.func, ast.Attribute) and inner.func.attr in CHANGES:
                    self.assertNotIn(ast.unparse(inner.func.value), walked, f"{name}: line {inner.lineno}")
                if isinstance(inner, ast.Subscript) and isinstance(inner.ctx, ast.Store):
                    self.assertNotIn(ast.unparse(inner.value), walked, f"{name}: line {inner.lineno}")

    def test_methods_and_pythons_own_are_called_where_they_stand(self):
        methods = {part.name for name, node in nodes(ast.ClassDef) for part in node.body if isinstance(part, ast.FunctionDef)}
        for name, tree in TREES.items():
            called = [node.func for node in ast.walk(tree) if isinstance(node, ast.Call)]
            for node in ast.walk(tree):
                if isinstance(node, ast.Attribute) and node.attr in METHODS | methods:
                    self.assertIn(node, called, f"{name}: line {node.lineno}")
                if isinstance(node, ast.Name) and node.id in BUILTINS:
                    self.assertIn(node, called, f"{name}: line {node.lineno}")

    def test_loops_and_targets(self):
        for name, node in nodes(ast.For, ast.While):
            self.assertEqual(node.orelse, [], f"{name}: line {node.lineno}")
        for name, node in nodes(ast.Assign):
            self.assertEqual(len(node.targets), 1, f"{name}: line {node.lineno}")

    def test_methods_and_values_of_objects(self):
        own = {node.name for name, node in nodes(ast.FunctionDef)}
        stored = {node.attr for name, node in nodes(ast.Attribute) if isinstance(node.ctx, ast.Store)}
        self.assertEqual(own & stored, set())
        for name, node in nodes(ast.Call):
            if isinstance(node.func, ast.Attribute):
                self.assertIn(node.func.attr, METHODS | own, f"{name}: line {node.lineno}")
        for name, node in nodes(ast.Attribute):
            self.assertNotIn(node.attr, NAMES_NOT_USED, f"{name}: line {node.lineno}")
            self.assertFalse(node.attr.startswith("_"), f"{name}: line {node.lineno}")
        pythons = {attr for kind in (str, int, list, dict, set, bytes, tuple) for attr in dir(kind)}
        self.assertEqual(stored & pythons, set())

    def test_is_stands_beside_none_true_and_false(self):
        for name, node in nodes(ast.Compare):
            for operator, right in zip(node.ops, node.comparators):
                if isinstance(operator, (ast.Is, ast.IsNot)):
                    self.assertIsInstance(right, ast.Constant, f"{name}: line {node.lineno}")


if __name__ == "__main__":
    unittest.main()
