"""Those rules of the language document that can be seen in the package's files."""

import ast
import builtins
import pathlib
import re
import unittest

PACKAGE = pathlib.Path(__file__).resolve().parent.parent / "fourhands"

STATEMENTS = (
    ast.FunctionDef, ast.ClassDef, ast.ImportFrom, ast.Assign, ast.AugAssign, ast.If, ast.While, ast.For,
    ast.Return, ast.Break, ast.Continue, ast.Pass, ast.Raise, ast.Try, ast.Expr,
)
EXPRESSIONS = (
    ast.Constant, ast.Name, ast.Attribute, ast.Subscript, ast.Slice, ast.Call, ast.List, ast.Tuple, ast.Dict,
    ast.Set, ast.BinOp, ast.UnaryOp, ast.BoolOp, ast.Compare, ast.IfExp, ast.ListComp, ast.Lambda,
    ast.JoinedStr, ast.FormattedValue,
)
OWN_NAMES = set("""
    len range enumerate zip min max sum abs sorted reversed int str bool list tuple dict set frozenset isinstance
    ord repr any all divmod Exception ValueError KeyError IndexError LookupError ZeroDivisionError
    ArithmeticError OverflowError RuntimeError NotImplementedError
""".split())
VALUE_METHODS = set("""
    append clear copy count endswith extend find get index insert isalnum isalpha isdigit islower isspace isupper
    items join keys ljust lower lstrip partition pop remove replace reverse rfind rjust rpartition rsplit rstrip
    setdefault split splitlines startswith strip update upper values zfill bit_length
""".split())
TAKEN_NAMES = set().union(*(dir(kind) for kind in (str, int, list, dict, set, bytes, tuple)))
OWN_METHODS = {"__init__", "__eq__", "__repr__", "__str__", "__len__"}
WORDS_NOWHERE = re.compile(
    r"\b(type|typing|typing_extensions|enum|Enum|IntEnum|StrEnum|Flag|IntFlag|Generic|Protocol|ABC|ABCMeta"
    r"|namedtuple|NamedTuple|TypedDict|TYPE_CHECKING|abstractmethod)\b|dataclass|overload|contextmanager")


def bound_names(tree):
    for node in ast.walk(tree):
        if isinstance(node, (ast.FunctionDef, ast.ClassDef)):
            yield node.name
        elif isinstance(node, ast.arg):
            yield node.arg
        elif isinstance(node, ast.Name) and isinstance(node.ctx, ast.Store):
            yield node.id
        elif isinstance(node, ast.Attribute) and isinstance(node.ctx, ast.Store):
            yield node.attr


def values_given(tree):
    """The names of objects' values that a file gives."""
    return {node.attr for node in ast.walk(tree)
            if isinstance(node, ast.Attribute) and isinstance(node.ctx, ast.Store)}


def methods_of(tree):
    return {node.name for kind in ast.walk(tree) if isinstance(kind, ast.ClassDef)
            for node in kind.body if isinstance(node, ast.FunctionDef)}


def names_at_top(tree):
    """The names that a file's top binds, an import's among them, in order."""
    for node in tree.body:
        if isinstance(node, ast.ImportFrom):
            yield from (alias.asname or alias.name for alias in node.names)
        elif isinstance(node, (ast.FunctionDef, ast.ClassDef)):
            yield node.name
        elif isinstance(node, ast.Assign):
            yield node.targets[0].id


class Language(unittest.TestCase):
    def setUp(self):
        self.sources = {}
        for path in sorted(PACKAGE.rglob("*.py")):
            self.sources[path.name] = path.read_bytes()
        self.trees = {name: ast.parse(source) for name, source in self.sources.items()}

    def nodes(self, *kinds):
        for name, tree in self.trees.items():
            for node in ast.walk(tree):
                if isinstance(node, kinds):
                    yield f"{name}:{node.lineno}", node

    def test_files(self):
        self.assertIn("__init__.py", self.sources)
        for path in PACKAGE.rglob("*"):
            if "__pycache__" not in path.parts:
                self.assertRegex(path.name, r"\A[a-z0-9_]+\.py\Z")
                self.assertNotIn(path.stem, dir(builtins))

    def test_signs_and_rows(self):
        for name, source in self.sources.items():
            self.assertEqual([byte for byte in source if not (byte == 10 or 32 <= byte <= 126)], [], name)
            rows = source.decode("ascii").splitlines()
            self.assertLessEqual(len(rows), 400, name)
            self.assertLessEqual(max(len(row) for row in rows), 120, name)

    def test_words_that_stand_nowhere(self):
        for name, source in self.sources.items():
            self.assertIsNone(WORDS_NOWHERE.search(source.decode("ascii")), name)

    def test_functions(self):
        for place, node in self.nodes(ast.FunctionDef):
            self.assertLessEqual(node.end_lineno - node.lineno + 1, 40, place)
            self.assertEqual(node.decorator_list, [], place)
            given = node.args
            self.assertFalse(given.vararg or given.kwarg or given.kwonlyargs or given.posonlyargs, place)

    def test_statements_and_expressions(self):
        for place, node in self.nodes(ast.stmt):
            self.assertIsInstance(node, STATEMENTS, place)
            if isinstance(node, ast.Assign):
                self.assertEqual(len(node.targets), 1, place)
            if isinstance(node, (ast.For, ast.While)):
                self.assertEqual(node.orelse, [], place)
            if isinstance(node, ast.Try):
                self.assertEqual(node.finalbody, [], place)
        for place, node in self.nodes(ast.expr):
            self.assertIsInstance(node, EXPRESSIONS, place)
            if isinstance(node, ast.Constant):
                self.assertIn(type(node.value), (int, str, bool, type(None)), place)
            if isinstance(node, ast.BinOp):
                self.assertNotIsInstance(node.op, (ast.Div, ast.MatMult), place)
            if isinstance(node, ast.ListComp):
                self.assertEqual(len(node.generators), 1, place)
                self.assertLessEqual(len(node.generators[0].ifs), 1, place)

    def test_imports_are_the_packages_own(self):
        for place, node in self.nodes(ast.ImportFrom):
            self.assertEqual(node.level, 0, place)
            self.assertRegex(node.module, r"\Afourhands\.[a-z_]+\Z", place)
            self.assertNotIn("*", [alias.name for alias in node.names], place)

    def test_imports_are_from_the_file_that_defines(self):
        drawn = {}
        for name, tree in self.trees.items():
            drawn[name] = set()
            for node in ast.walk(tree):
                if isinstance(node, ast.ImportFrom):
                    source = node.module.split(".")[1] + ".py"
                    drawn[name].add(source)
                    defined = {bound for row in self.trees[source].body if not isinstance(row, ast.ImportFrom)
                               for bound in names_at_top(ast.Module([row], []))}
                    self.assertLessEqual({alias.name for alias in node.names}, defined, name)
        while drawn:
            free = [name for name in drawn if not drawn[name] & set(drawn)]
            self.assertTrue(free, f"files draw from one another: {sorted(drawn)}")
            for name in free:
                del drawn[name]

    def test_top_of_a_file(self):
        for name, tree in self.trees.items():
            bound = list(names_at_top(tree))
            self.assertEqual(len(bound), len(set(bound)), name)
            for node in tree.body[1:]:
                self.assertIsInstance(node, (ast.ImportFrom, ast.FunctionDef, ast.ClassDef, ast.Assign), name)
                if isinstance(node, ast.Assign):
                    value = ast.literal_eval(node.value)
                    self.assertIsInstance(value, (int, str, bool, type(None), tuple, list, dict), name)
                    inner = node.value.values if isinstance(node.value, ast.Dict) else getattr(node.value, "elts", [])
                    self.assertFalse([part for part in inner if isinstance(part, (ast.List, ast.Dict))], name)

    def test_methods_and_values(self):
        methods = set().union(*(methods_of(tree) for tree in self.trees.values()))
        values = set().union(*(values_given(tree) for tree in self.trees.values()))
        self.assertFalse(methods & values)
        self.assertFalse((methods - OWN_METHODS | values) & TAKEN_NAMES)
        called = {id(node.func) for _, node in self.nodes(ast.Call)}
        for place, node in self.nodes(ast.Attribute):
            if id(node) in called:
                self.assertIn(node.attr, methods | VALUE_METHODS, place)
            else:
                self.assertIn(node.attr, values, place)

    def test_is_stands_beside_none_true_and_false(self):
        for place, node in self.nodes(ast.Compare):
            for operator, right in zip(node.ops, node.comparators):
                if isinstance(operator, (ast.Is, ast.IsNot)):
                    self.assertIsInstance(right, ast.Constant, place)
                    self.assertIn(right.value, (None, True, False), place)

    def test_locals_are_not_called_like_what_the_top_binds(self):
        for name, tree in self.trees.items():
            top = set(names_at_top(tree))
            for node in ast.walk(tree):
                if isinstance(node, ast.arg):
                    self.assertNotIn(node.arg, top, f"{name}:{node.lineno}")
            for function in ast.walk(tree):
                if isinstance(function, ast.FunctionDef):
                    for node in ast.walk(function):
                        if isinstance(node, ast.Name) and isinstance(node.ctx, ast.Store):
                            self.assertNotIn(node.id, top, f"{name}:{node.lineno}")

    def test_names(self):
        for name, tree in self.trees.items():
            for bound in bound_names(tree):
                if bound not in OWN_METHODS:
                    self.assertRegex(bound, r"\A[A-Za-z][A-Za-z0-9_]*\Z", name)
                self.assertNotIn(bound, dir(builtins), name)
            for node in ast.walk(tree):
                if isinstance(node, ast.Name) and node.id in dir(builtins):
                    self.assertIn(node.id, OWN_NAMES, f"{name}:{node.lineno}")


if __name__ == "__main__":
    unittest.main()
