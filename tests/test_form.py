"""The form of the package's files: those rules of LANGUAGE.md that a file shows by itself, under their numbers."""
import ast
import builtins
import pathlib
import re
import unittest

PACKAGE = pathlib.Path(__file__).resolve().parent.parent / "patchwords"

STATEMENTS = (
    ast.Assign, ast.AugAssign, ast.If, ast.While, ast.For, ast.Return, ast.Break, ast.Continue, ast.Pass, ast.Raise,
    ast.Try, ast.ExceptHandler, ast.Expr, ast.FunctionDef, ast.ClassDef, ast.ImportFrom, ast.alias, ast.Module)
EXPRESSIONS = (
    ast.Constant, ast.List, ast.Tuple, ast.Dict, ast.BinOp, ast.UnaryOp, ast.BoolOp, ast.Compare, ast.IfExp, ast.Call,
    ast.Attribute, ast.Subscript, ast.Slice, ast.ListComp, ast.comprehension, ast.JoinedStr, ast.FormattedValue,
    ast.Name, ast.Lambda, ast.arguments, ast.arg, ast.keyword, ast.expr_context, ast.operator, ast.unaryop, ast.boolop,
    ast.cmpop)
BUILT_IN = set(
    "len range enumerate zip min max sum abs sorted reversed int str bool list tuple dict set frozenset isinstance ord "
    "repr any all divmod Exception ValueError TypeError KeyError IndexError LookupError ZeroDivisionError "
    "ArithmeticError OverflowError RuntimeError NotImplementedError AttributeError StopIteration".split())
METHODS = set(
    "append clear copy count endswith extend find get index insert isalnum isalpha isdigit islower isspace isupper "
    "items join keys ljust lower lstrip partition pop remove replace reverse rfind rjust rpartition rsplit rstrip "
    "setdefault split splitlines startswith strip update upper values zfill bit_length".split())
NOWHERE = re.compile(
    r"\b(type|typing|typing_extensions|enum|Enum|IntEnum|StrEnum|Flag|IntFlag|Generic|Protocol|ABC|ABCMeta|namedtuple|"
    r"NamedTuple|TypedDict|TYPE_CHECKING|abstractmethod|register|mro|elements|open|input|version_info)\b"
    r"|dataclass|overload|contextmanager")


class Form(unittest.TestCase):
    def setUp(self):
        self.files = sorted(PACKAGE.glob("*.py"))
        self.trees = {file.name: ast.parse(file.read_text("ascii")) for file in self.files}
        self.own = {node.name for tree in self.trees.values() for node in ast.walk(tree)
                    if isinstance(node, (ast.FunctionDef, ast.ClassDef))}

        self.place = ""

    def _formatMessage(self, msg, standard):
        return super()._formatMessage(msg, f"{self.place} {standard}")

    def nodes(self, *kinds):
        for name, tree in self.trees.items():
            for node in ast.walk(tree):
                if isinstance(node, kinds or ast.AST):
                    self.place = f"{name}:{getattr(node, 'lineno', 0)}"
                    yield node

    def test_l1_l14_files(self):
        others = [found.name for found in PACKAGE.iterdir() if found not in self.files and found.name != "__pycache__"]
        self.assertEqual(others, [])
        self.assertIn("__init__.py", self.trees)
        for name in self.trees:
            self.assertRegex(name, r"^([a-z][a-z0-9_]*|__init__)\.py$")
            self.assertNotIn(name[:-3], dir(builtins))

    def test_l10_l14_l17_rows(self):
        for file in self.files:
            for row in file.read_text("ascii").split("\n"):
                self.assertLessEqual(len(row), 120)
                self.assertRegex(row, r"^[ -~]*$")
                self.assertIsNone(NOWHERE.search(row), row)
            self.assertLessEqual(len(file.read_text().splitlines()), 400)

    def test_l10_functions(self):
        for node in self.nodes(ast.FunctionDef):
            self.assertLessEqual(node.end_lineno - node.lineno + 1, 40)
            self.assertEqual(node.decorator_list, [])
            self.assertIsNone(node.returns)
            self.assertEqual((node.args.vararg, node.args.kwarg, node.args.kwonlyargs), (None, None, []))

    def test_l2_l16_imports(self):
        for node in self.nodes(ast.ImportFrom):
            self.assertEqual(node.level, 0)
            self.assertTrue(node.module.startswith("patchwords."))
            drawn = self.trees[node.module.split(".")[1] + ".py"]
            bound = {name.id for row in drawn.body if isinstance(row, ast.Assign) for name in row.targets}
            bound |= {row.name for row in drawn.body if isinstance(row, (ast.FunctionDef, ast.ClassDef))}
            for alias in node.names:
                self.assertIn(alias.name, bound)

    def test_l16_no_circles(self):
        drawn = {name[:-3]: {row.module.split(".")[1] for row in tree.body if isinstance(row, ast.ImportFrom)}
                 for name, tree in self.trees.items()}
        while drawn:
            free = [name for name in drawn if not drawn[name] & drawn.keys()]
            self.assertNotEqual(free, [], drawn)
            for name in free:
                drawn.pop(name)

    def test_l3_tops(self):
        for name, tree in self.trees.items():
            self.assertIsNotNone(ast.get_docstring(tree), name)
            for row in tree.body[1:]:
                self.assertIsInstance(row, (ast.ImportFrom, ast.FunctionDef, ast.ClassDef, ast.Assign))
                if isinstance(row, ast.Assign):
                    ast.literal_eval(row.value)

    def test_l6_l7_parts_of_the_language(self):
        for node in self.nodes():
            self.assertIsInstance(node, STATEMENTS + EXPRESSIONS)
            self.assertNotIsInstance(node, (ast.Div, ast.MatMult))
            if isinstance(node, ast.Assign):
                self.assertEqual(len(node.targets), 1)
                self.assertNotIsInstance(node.targets[0], (ast.Tuple, ast.List))
            if isinstance(node, (ast.For, ast.While)):
                self.assertEqual(node.orelse, [])
            if isinstance(node, ast.Try):
                self.assertEqual(node.finalbody, [])
                self.assertNotIn(None, [handler.type for handler in node.handlers])
            if isinstance(node, ast.Constant):
                self.assertIsInstance(node.value, (int, str, bool, None.__class__))

    def test_l8_l15_names(self):
        for node in self.nodes(ast.Name, ast.arg):
            name = node.id if isinstance(node, ast.Name) else node.arg
            self.assertRegex(name, r"^[A-Za-z][A-Za-z0-9_]*$")
            if isinstance(node, ast.arg) or isinstance(node.ctx, ast.Store):
                self.assertNotIn(name, dir(builtins))
            elif name in dir(builtins):
                self.assertIn(name, BUILT_IN)

    def test_l5_classes(self):
        for node in self.nodes(ast.ClassDef):
            self.assertEqual(node.decorator_list, [])
            self.assertLessEqual(len(node.bases), 1)
            for row in node.body:
                self.assertIsInstance(row, (ast.FunctionDef, ast.Pass))

    def test_l15_names_of_the_file(self):
        for name, tree in self.trees.items():
            taken = {row.name for row in tree.body if isinstance(row, ast.ClassDef)}
            taken |= {alias.name for row in tree.body if isinstance(row, ast.ImportFrom) for alias in row.names}
            for node in ast.walk(tree):
                if isinstance(node, ast.arg):
                    self.assertNotIn(node.arg, taken, name)
                if isinstance(node, ast.Name) and isinstance(node.ctx, ast.Store):
                    self.assertNotIn(node.id, taken, name)

    def test_l18_l26_values_of_objects(self):
        methods = {row.name for node in self.nodes(ast.ClassDef) for row in node.body if isinstance(row, ast.FunctionDef)}
        taken = {name for kind in (str, int, list, tuple, dict, set, bytes) for name in dir(kind)}
        kept = {node.attr for node in self.nodes(ast.Attribute) if isinstance(node.ctx, ast.Store)}
        self.assertEqual(kept & (methods | taken), set())

    def test_l19_errors(self):
        for node in self.nodes(ast.ExceptHandler):
            taken = node.type.elts if isinstance(node.type, ast.Tuple) else [node.type]
            for one in taken:
                self.assertIn(one.id, self.own)
        for node in self.nodes(ast.Raise):
            self.assertIsInstance(node.exc, ast.Call)
            self.assertIn(node.exc.func.id, self.own)

    def test_l20_is(self):
        for node in self.nodes(ast.Compare):
            if any(isinstance(sign, (ast.Is, ast.IsNot)) for sign in node.ops):
                self.assertIsInstance(node.comparators[0], ast.Constant)

    def test_l25_methods(self):
        for node in self.nodes(ast.Call):
            if isinstance(node.func, ast.Attribute):
                self.assertIn(node.func.attr, METHODS | self.own)

    def test_l27_texts(self):
        for node in self.nodes(ast.Constant):
            if isinstance(node.value, str):
                self.assertNotIn("%", node.value)


if __name__ == "__main__":
    unittest.main()
