"""The form of the package: the rules for its language that a reader of its syntax can see."""

import ast
import builtins
import pathlib
import re
import unittest

PACKAGE = pathlib.Path(__file__).resolve().parent.parent / "livetable"

OWN_NAMES = set(
    "len range enumerate zip min max sum abs sorted reversed int str bool list tuple dict set frozenset isinstance ord "
    "repr any all divmod Exception ValueError TypeError KeyError IndexError LookupError ZeroDivisionError "
    "ArithmeticError OverflowError RuntimeError NotImplementedError AttributeError StopIteration".split()
)
METHODS = set(
    "append clear copy count endswith extend find get index insert isalnum isalpha isdigit islower isspace isupper "
    "items join keys ljust lower lstrip partition pop remove replace reverse rfind rjust rpartition rsplit rstrip "
    "setdefault split splitlines startswith strip update upper values zfill bit_length".split()
)
WORDS = re.compile(
    r"\b(type|typing|typing_extensions|enum|Enum|IntEnum|StrEnum|Flag|IntFlag|Generic|Protocol|ABC|ABCMeta|namedtuple"
    r"|NamedTuple|TypedDict|TYPE_CHECKING|abstractmethod)\b|dataclass|overload|contextmanager"
)
FORBIDDEN = (
    ast.With, ast.Match, ast.Delete, ast.Global, ast.Nonlocal, ast.Assert, ast.Yield, ast.YieldFrom, ast.Await,
    ast.AsyncFunctionDef, ast.Import, ast.SetComp, ast.DictComp, ast.GeneratorExp, ast.NamedExpr, ast.Starred, ast.Div,
    ast.AnnAssign, ast.MatMult,
)
BUILT_IN_VALUES = ("", 0, [], (), {}, set(), b"")
VALUE_NAMES = set("count index title find get join lower upper split strip copy add".split())


def own_names(tree):
    """The names that a file defines at its top."""
    names = {node.name for node in tree.body if isinstance(node, (ast.FunctionDef, ast.ClassDef))}
    return names | {node.targets[0].id for node in tree.body if isinstance(node, ast.Assign)}


class Form(unittest.TestCase):
    def setUp(self):
        self.files = {path: path.read_text(encoding="utf-8") for path in sorted(PACKAGE.glob("*.py"))}
        self.trees = {path: ast.parse(text) for path, text in self.files.items()}

    def nodes(self, *kinds):
        for path, tree in self.trees.items():
            for node in ast.walk(tree):
                if isinstance(node, kinds):
                    yield f"{path.name}:{getattr(node, 'lineno', 0)}", node

    def test_files(self):
        others = [path.name for path in PACKAGE.iterdir() if path not in self.files and path.name != "__pycache__"]
        self.assertEqual(others, [])
        for path in self.files:
            self.assertRegex(path.name, r"^(__init__|[a-z][a-z0-9_]*)\.py$")
            self.assertNotIn(path.stem, dir(builtins))

    def test_rows_and_signs(self):
        for path, text in self.files.items():
            self.assertLessEqual(text.count("\n"), 400, path.name)
            self.assertLessEqual(max(len(row) for row in text.split("\n")), 120, path.name)
            self.assertRegex(text, r"\A[ -~\n]*\Z", path.name)
            self.assertIsNone(WORDS.search(text), path.name)

    def test_functions(self):
        for place, node in self.nodes(ast.FunctionDef):
            self.assertLessEqual(node.end_lineno - node.lineno + 1, 40, place)
            self.assertEqual(node.decorator_list, [], place)
            self.assertIsNone(node.args.vararg or node.args.kwarg, place)
            self.assertEqual(node.args.kwonlyargs, [], place)

    def test_statements_and_expressions(self):
        for place, node in self.nodes(*FORBIDDEN):
            self.fail(f"{place}: {node}")
        for place, node in self.nodes(ast.For, ast.While):
            self.assertEqual(node.orelse, [], place)
        for place, node in self.nodes(ast.Assign):
            self.assertEqual(len(node.targets), 1, place)
            self.assertNotIsInstance(node.targets[0], (ast.Tuple, ast.List), place)
        for place, node in self.nodes(ast.Constant):
            self.assertIn(type(node.value), (int, str, bool, type(None)), place)
        for place, node in self.nodes(ast.Compare):
            if any(isinstance(operator, (ast.Is, ast.IsNot)) for operator in node.ops):
                self.assertIsInstance(node.comparators[0], ast.Constant, place)

    def test_imports(self):
        for place, node in self.nodes(ast.ImportFrom):
            self.assertEqual(node.level, 0, place)
            self.assertRegex(node.module, r"^livetable\.[a-z]+$", place)
            self.assertNotIn("*", [alias.name for alias in node.names], place)

    def test_imports_come_from_the_defining_file_and_in_no_ring(self):
        drawn = {}
        for path, tree in self.trees.items():
            rows = [node for node in tree.body if isinstance(node, ast.ImportFrom)]
            drawn[path.stem] = {row.module.split(".")[1] for row in rows}
            for row in rows:
                defined = own_names(self.trees[PACKAGE / (row.module.split(".")[1] + ".py")])
                self.assertLessEqual({alias.name for alias in row.names}, defined, f"{path.name}:{row.lineno}")
        while drawn:
            free = {stem for stem, others in drawn.items() if not others & set(drawn)}
            self.assertNotEqual(free, set(), drawn)
            drawn = {stem: others for stem, others in drawn.items() if stem not in free}

    def test_top_of_files(self):
        for path, tree in self.trees.items():
            for node in tree.body[1:]:
                place = f"{path.name}:{node.lineno}"
                self.assertIsInstance(node, (ast.ImportFrom, ast.Assign, ast.FunctionDef, ast.ClassDef), place)
                if isinstance(node, ast.Assign):
                    ast.literal_eval(node.value)
            self.assertIsNotNone(ast.get_docstring(tree), path.name)

    def test_locals_are_not_called_like_classes_or_imports(self):
        for path, tree in self.trees.items():
            taken = {node.name for node in tree.body if isinstance(node, ast.ClassDef)}
            taken |= {alias.name for node in tree.body if isinstance(node, ast.ImportFrom) for alias in node.names}
            for node in ast.walk(tree):
                if isinstance(node, ast.Name) and isinstance(node.ctx, ast.Store):
                    self.assertNotIn(node.id, taken, f"{path.name}:{node.lineno}")
                if isinstance(node, ast.arg):
                    self.assertNotIn(node.arg, taken, f"{path.name}:{node.lineno}")

    def test_powers_have_a_written_exponent(self):
        for place, node in self.nodes(ast.BinOp):
            if isinstance(node.op, ast.Pow):
                self.assertIsInstance(node.right, ast.Constant, place)

    def test_names(self):
        for place, node in self.nodes(ast.Name):
            self.assertRegex(node.id, r"^[A-Za-z][A-Za-z0-9_]*$", place)
            if isinstance(node.ctx, ast.Store):
                self.assertNotIn(node.id, dir(builtins), place)
            elif node.id in dir(builtins):
                self.assertIn(node.id, OWN_NAMES, place)
        for place, node in self.nodes(ast.arg):
            self.assertNotIn(node.arg, dir(builtins), place)

    def test_methods_and_values(self):
        methods = {
            item.name for place, node in self.nodes(ast.ClassDef) for item in node.body
            if isinstance(item, ast.FunctionDef)
        }
        values = {node.attr for place, node in self.nodes(ast.Attribute) if isinstance(node.ctx, ast.Store)}
        self.assertEqual(methods & values, set())
        python_has = {name for value in BUILT_IN_VALUES for name in dir(value)}
        self.assertEqual((methods & python_has) - METHODS - {"__init__", "add", "discard"}, set())
        self.assertEqual((values & python_has) - VALUE_NAMES, set())
        for place, node in self.nodes(ast.Attribute):
            self.assertIn(node.attr, METHODS | methods | values, place)
