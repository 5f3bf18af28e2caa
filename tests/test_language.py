"""The rules of the program's language that can be seen in a file: sizes, words, forms and names."""

import ast
import builtins
import pathlib
import re
import unittest

PACKAGE = pathlib.Path(__file__).resolve().parent.parent / "manyhands"

NODES = """
Module FunctionDef arguments arg ClassDef Return Assign AugAssign For While If Raise Try ExceptHandler ImportFrom alias
Expr Pass Break Continue BoolOp And Or BinOp Add Sub Mult FloorDiv Mod Pow LShift RShift BitOr BitXor BitAnd UnaryOp
Invert Not UAdd USub Lambda IfExp Dict Set List Tuple ListComp comprehension Compare Eq NotEq Lt LtE Gt GtE Is IsNot In
NotIn Call keyword JoinedStr FormattedValue Constant Attribute Subscript Slice Name Load Store
""".split()

OWN_NAMES = """
len range enumerate zip min max sum abs sorted reversed int str bool list tuple dict set frozenset isinstance ord repr
any all divmod Exception ValueError TypeError KeyError IndexError LookupError ZeroDivisionError ArithmeticError
OverflowError RuntimeError NotImplementedError AttributeError StopIteration
""".split()

METHODS = """
append clear copy count endswith extend find get index insert isalnum isalpha isdigit islower isspace isupper items join
keys ljust lower lstrip partition pop remove replace reverse rfind rjust rpartition rsplit rstrip setdefault split
splitlines startswith strip update upper values zfill bit_length
""".split()

WORDS = """
type typing typing_extensions enum Enum IntEnum StrEnum Flag IntFlag Generic Protocol ABC ABCMeta namedtuple NamedTuple
TypedDict TYPE_CHECKING abstractmethod
""".split()

DUNDERS = ["__init__", "__eq__", "__repr__", "__str__", "__len__"]
PYTHONS_VALUES = ["", 0, [], {}, (), set(), b""]


class Language(unittest.TestCase):
    def setUp(self):
        self.files = {path: path.read_text("utf-8") for path in sorted(PACKAGE.rglob("*.py"))}
        self.trees = {path: ast.parse(text) for path, text in self.files.items()}

    def nodes(self, *kinds):
        for path, tree in self.trees.items():
            for node in ast.walk(tree):
                if isinstance(node, kinds):
                    yield f"{path.name}:{getattr(node, 'lineno', 0)}", node

    def test_files(self):
        self.assertIn(PACKAGE / "__init__.py", self.files)
        for path in PACKAGE.rglob("*"):
            if "__pycache__" not in path.parts and not path.is_dir():
                self.assertRegex(path.name, r"^[a-z0-9_]+\.py$")

    def test_signs_and_sizes(self):
        for path, text in self.files.items():
            self.assertRegex(text, r"\A[ -~\n]*\Z", path.name)
            self.assertLessEqual(len(text.splitlines()), 400, path.name)
            self.assertLessEqual(max(map(len, text.splitlines()), default=0), 120, path.name)
        for place, node in self.nodes(ast.FunctionDef):
            self.assertLessEqual(node.end_lineno - node.lineno + 1, 40, place)

    def test_words(self):
        for path, text in self.files.items():
            found = set(re.findall(r"\w+", text)) & set(WORDS)
            self.assertEqual(found, set(), path.name)
            self.assertIsNone(re.search("dataclass|overload|contextmanager", text), path.name)

    def test_forms(self):
        for place, node in self.nodes(ast.AST):
            self.assertIn(node.__class__.__name__, NODES, place)
        for place, node in self.nodes(ast.Constant):
            self.assertIn(node.value.__class__, [int, str, bool, None.__class__], place)
            self.assertNotIn(chr(37), str(node.value), place)
        for place, node in self.nodes(ast.FunctionDef, ast.ClassDef):
            self.assertEqual(node.decorator_list, [], place)
        for place, node in self.nodes(ast.arguments):
            self.assertFalse(node.vararg or node.kwarg or node.kwonlyargs or node.posonlyargs, place)
        for place, node in self.nodes(ast.For, ast.While):
            self.assertEqual(node.orelse, [], place)
        for place, node in self.nodes(ast.Try):
            self.assertEqual(node.finalbody, [], place)
        for place, node in self.nodes(ast.Assign):
            self.assertEqual(len(node.targets), 1, place)

    def test_the_top_of_each_file(self):
        for path, tree in self.trees.items():
            self.assertIsNotNone(ast.get_docstring(tree), path.name)
            for node in tree.body[1:]:
                self.assertIsInstance(node, (ast.ImportFrom, ast.FunctionDef, ast.ClassDef, ast.Assign), path.name)
        for place, node in self.nodes(ast.ImportFrom):
            self.assertEqual(node.level, 0, place)
            self.assertRegex(node.module, r"^manyhands\.\w+$", place)
            source = self.trees[PACKAGE / (node.module.split(".")[1] + ".py")]
            defined = [d.name for d in source.body if isinstance(d, (ast.FunctionDef, ast.ClassDef))]
            defined += [d.targets[0].id for d in source.body if isinstance(d, ast.Assign)]
            for alias in node.names:
                self.assertIn(alias.name, defined, place)

    def test_names(self):
        for place, node in self.nodes(ast.Name):
            self.assertRegex(node.id, r"^[A-Za-z]", place)
            if node.id in vars(builtins):
                self.assertIn(node.id, OWN_NAMES, place)
                self.assertIsInstance(node.ctx, ast.Load, place)
        for place, node in self.nodes(ast.arg):
            self.assertNotIn(node.arg, vars(builtins), place)
        for place, node in self.nodes(ast.FunctionDef):
            self.assertTrue(node.name in DUNDERS or not node.name.startswith("_"), place)
            self.assertNotIn(node.name, vars(builtins), place)

    def test_methods(self):
        for place, node in self.nodes(ast.Attribute):
            of_pythons = any(hasattr(value, node.attr) for value in PYTHONS_VALUES)
            self.assertTrue(node.attr in METHODS + DUNDERS or not of_pythons, place)

    def test_no_name_is_a_method_and_a_value(self):
        methods = [part.name for place, node in self.nodes(ast.ClassDef) for part in node.body
                   if isinstance(part, ast.FunctionDef)]
        for place, node in self.nodes(ast.Attribute):
            if isinstance(node.ctx, ast.Store):
                self.assertNotIn(node.attr, methods, place)
        for place, node in self.nodes(ast.ClassDef):
            names = [part.name for part in node.body if isinstance(part, ast.FunctionDef)]
            self.assertEqual(len(names), len(set(names)), place)

    def test_values_are_compared_with_is_to_none_and_truths_alone(self):
        for place, node in self.nodes(ast.Compare):
            for operator, right in zip(node.ops, node.comparators):
                if isinstance(operator, (ast.Is, ast.IsNot)):
                    self.assertIsInstance(right, ast.Constant, place)

    def test_no_local_is_called_like_what_its_file_imports_or_like_its_classes(self):
        for path, tree in self.trees.items():
            taken = [node.name for node in tree.body if isinstance(node, ast.ClassDef)]
            taken += [alias.name for node in tree.body if isinstance(node, ast.ImportFrom) for alias in node.names]
            for node in ast.walk(tree):
                if isinstance(node, ast.arg):
                    self.assertNotIn(node.arg, taken, path.name)
                if isinstance(node, ast.Name) and isinstance(node.ctx, ast.Store):
                    self.assertNotIn(node.id, taken, path.name)

    def test_no_two_files_draw_from_one_another(self):
        drawn = {
            path.stem: {node.module.split(".")[1] for node in tree.body if isinstance(node, ast.ImportFrom)}
            for path, tree in self.trees.items()
        }
        while drawn:
            free = [name for name, others in drawn.items() if not others & set(drawn)]
            self.assertTrue(free, drawn)
            drawn = {name: others for name, others in drawn.items() if name not in free}


if __name__ == "__main__":
    unittest.main()
