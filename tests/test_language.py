"""The rules of the language that can be seen in the package's files (L1 to L28), as far as the package uses them."""

import ast
import builtins
import pathlib
import re
import unittest

PACKAGE = pathlib.Path(__file__).resolve().parent.parent / "slipshelf"

STATEMENTS = (
    ast.Assign, ast.AugAssign, ast.If, ast.While, ast.For, ast.Return, ast.Break, ast.Continue, ast.Pass, ast.Raise,
    ast.Expr, ast.FunctionDef, ast.ClassDef, ast.ImportFrom,
)
OWN_NAMES = set("""
len range enumerate zip min max sum abs sorted reversed int str bool list tuple dict set isinstance ord repr any all
divmod Exception ValueError KeyError
""".split())
METHODS = set("""
append clear copy count endswith extend find get index insert isalnum isalpha isdigit islower isspace isupper items
join keys ljust lower lstrip partition pop remove replace reverse rfind rjust rpartition rsplit rstrip setdefault
split splitlines startswith strip update upper values zfill bit_length
""".split())
NOT_WRITTEN = re.compile(r"""
\b(type|typing|typing_extensions|enum|Enum|IntEnum|StrEnum|Flag|IntFlag|Generic|Protocol|ABC|ABCMeta|namedtuple
|NamedTuple|TypedDict|TYPE_CHECKING|abstractmethod)\b|dataclass|overload|contextmanager
""", re.VERBOSE)
WALKED = set("zip enumerate reversed range items keys values".split())
TAKEN = [dir(kind) for kind in (str, int, list, dict, set, bytes)]
NOT_USED = ast.Lambda, ast.SetComp, ast.DictComp, ast.GeneratorExp, ast.NamedExpr, ast.Starred, ast.Set, ast.Div


def bound_names(tree):
    """Every name that a file binds, parameters and values of objects among them."""
    for node in ast.walk(tree):
        if isinstance(node, (ast.FunctionDef, ast.ClassDef)):
            yield node.name
        elif isinstance(node, ast.arg):
            yield node.arg
        elif isinstance(node, (ast.Name, ast.Attribute)) and isinstance(node.ctx, ast.Store):
            yield node.id if isinstance(node, ast.Name) else node.attr


class Language(unittest.TestCase):
    def setUp(self):
        self.texts = {path.name: path.read_text("utf-8") for path in PACKAGE.glob("*.py")}
        self.trees = {name: ast.parse(text) for name, text in self.texts.items()}

    def nodes(self, *kinds):
        for name, tree in self.trees.items():
            for node in ast.walk(tree):
                if isinstance(node, kinds):
                    yield f"{name}:{getattr(node, 'lineno', 0)}", node

    def test_nothing_else_lies_in_the_package(self):
        others = {path.name for path in PACKAGE.iterdir()} - set(self.texts) - {"__pycache__"}
        self.assertEqual(others, set())
        self.assertLessEqual({"__init__.py", "binder.py"}, set(self.texts))

    def test_size_and_signs(self):
        for name, text in self.texts.items():
            self.assertLessEqual(len(text.splitlines()), 400, name)
            self.assertLessEqual(max(map(len, text.splitlines())), 120, name)
            self.assertRegex(text, r"\A[ -~\n]*\Z", name)
            self.assertIsNone(NOT_WRITTEN.search(text), name)
        for place, node in self.nodes(ast.FunctionDef):
            self.assertLessEqual(node.end_lineno - node.lineno + 1, 40, place)

    def test_imports_are_the_packages_own(self):
        for place, node in self.nodes(ast.Import, ast.ImportFrom):
            self.assertIsInstance(node, ast.ImportFrom, place)
            self.assertTrue(node.level == 0 and node.module.startswith("slipshelf."), place)

    def test_statements_and_expressions(self):
        for place, node in self.nodes(ast.stmt):
            self.assertIsInstance(node, STATEMENTS, place)
            self.assertFalse(isinstance(node, (ast.For, ast.While)) and node.orelse, place)
            self.assertFalse(isinstance(node, ast.Assign) and len(node.targets) > 1, place)
        for place, node in self.nodes(*NOT_USED):
            self.fail(place)
        for place, node in self.nodes(ast.ListComp):
            self.assertTrue(len(node.generators) == 1 and len(node.generators[0].ifs) <= 1, place)
        for place, node in self.nodes(ast.Constant):
            self.assertIn(type(node.value), (int, str, bool, type(None)), place)
        for place, node in self.nodes(ast.Compare):
            beside = [side for side, op in zip(node.comparators, node.ops) if isinstance(op, (ast.Is, ast.IsNot))]
            self.assertTrue(all(isinstance(side, ast.Constant) for side in beside), place)

    def test_functions_are_plain(self):
        for place, node in self.nodes(ast.FunctionDef, ast.ClassDef):
            self.assertEqual(node.decorator_list, [], place)
        for place, node in self.nodes(ast.arguments):
            self.assertFalse(node.vararg or node.kwarg or node.kwonlyargs or node.posonlyargs, place)

    def test_names(self):
        for name, tree in self.trees.items():
            bound = set(bound_names(tree))
            for one in bound - {"__init__"}:
                self.assertRegex(one, r"\A[A-Za-z][A-Za-z0-9_]*\Z", name)
            used = {node.id for node in ast.walk(tree) if isinstance(node, ast.Name)}
            self.assertEqual(bound & set(dir(builtins)), set(), name)
            self.assertLessEqual(used & set(dir(builtins)), OWN_NAMES, name)

    def test_methods_are_those_allowed_or_its_own(self):
        own = {node.name for place, node in self.nodes(ast.FunctionDef)}
        stored = {node.attr for place, node in self.nodes(ast.Attribute) if isinstance(node.ctx, ast.Store)}
        methods = {part.name for place, node in self.nodes(ast.ClassDef) for part in node.body
                   if isinstance(part, ast.FunctionDef)}
        self.assertEqual(methods & stored, set())
        for place, node in self.nodes(ast.Call):
            if isinstance(node.func, ast.Attribute):
                self.assertIn(node.func.attr, METHODS | own, place)

    def test_own_methods_and_values_are_not_called_like_pythons(self):
        values = {node.attr for place, node in self.nodes(ast.Attribute) if isinstance(node.ctx, ast.Store)}
        methods = {part.name for place, node in self.nodes(ast.ClassDef) for part in node.body
                   if isinstance(part, ast.FunctionDef)}
        taken = {name for names in TAKEN for name in names}
        self.assertEqual((values | methods) & taken - {"__init__"}, set())

    def test_what_is_walked_is_walked_at_once(self):
        walks = [node.iter for place, node in self.nodes(ast.For, ast.comprehension)]
        for place, node in self.nodes(ast.Call):
            name = node.func.attr if isinstance(node.func, ast.Attribute) else node.func.id
            if name in WALKED:
                self.assertIn(node, walks, place)
            self.assertNotIn(name, ("set", "frozenset"), place)
            self.assertEqual(node.keywords, [], place)

    def test_lists_and_dicts_at_the_top_are_only_read_by_an_index(self):
        for name, tree in self.trees.items():
            kept = {node.targets[0].id for node in tree.body
                    if isinstance(node, ast.Assign) and isinstance(node.value, (ast.List, ast.Dict))}
            read = [node.value for node in ast.walk(tree)
                    if isinstance(node, ast.Subscript) and isinstance(node.ctx, ast.Load)]
            for node in ast.walk(tree):
                if isinstance(node, ast.Name) and isinstance(node.ctx, ast.Load) and node.id in kept:
                    self.assertIn(node, read, f"{name}:{node.lineno}")

    def test_the_top_of_a_file(self):
        for name, tree in self.trees.items():
            names = []
            for node in tree.body:
                if isinstance(node, ast.Assign):
                    ast.literal_eval(node.value)
                    names.append(node.targets[0].id)
                elif isinstance(node, (ast.FunctionDef, ast.ClassDef)):
                    names.append(node.name)
                else:
                    self.assertIsInstance(node, (ast.Expr, ast.ImportFrom), name)
            self.assertEqual(len(names), len(set(names)), name)
