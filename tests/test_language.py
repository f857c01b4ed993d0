"""The package's files keep to the part of Python that the program is written in."""

import ast
import builtins
import pathlib
import re
import unittest

ROOT = pathlib.Path(__file__).resolve().parent.parent
PACKAGE = ROOT / "tablesalike"

OWN_NAMES = set(
    "len range enumerate zip min max sum abs sorted reversed int str bool list tuple dict set frozenset isinstance ord"
    " repr any all divmod Exception ValueError TypeError KeyError IndexError LookupError ZeroDivisionError"
    " ArithmeticError OverflowError RuntimeError NotImplementedError AttributeError StopIteration".split()
)
METHODS = set(
    "append clear copy count endswith extend find get index insert isalnum isalpha isdigit islower isspace isupper items"
    " join keys ljust lower lstrip partition pop remove replace reverse rfind rjust rpartition rsplit rstrip setdefault"
    " split splitlines startswith strip update upper values zfill bit_length".split()
)
NODES = set(
    "Module Expr Constant ImportFrom alias FunctionDef arguments arg Assign If While For Return Break Continue Pass Raise"
    " Try ExceptHandler ClassDef Name Load Store Attribute Call keyword Subscript Slice List Tuple Dict ListComp"
    " comprehension BinOp UnaryOp BoolOp Compare IfExp JoinedStr FormattedValue Lambda Add Sub Mult FloorDiv Mod Pow"
    " BitAnd BitOr BitXor LShift RShift Invert Not USub And Or Eq NotEq Lt LtE Gt GtE In NotIn Is IsNot".split()
)
WORDS = re.compile(
    r"\b(type|typing|typing_extensions|enum|Enum|IntEnum|StrEnum|Flag|IntFlag|Generic|Protocol|ABC|ABCMeta|namedtuple"
    r"|NamedTuple|TypedDict|TYPE_CHECKING|abstractmethod)\b|dataclass|overload|contextmanager"
)
WALKED = ("zip", "enumerate", "reversed", "range")
WALKERS = ("list", "tuple", "dict", "sorted", "sum", "any", "all", "enumerate", "zip", "min", "max")


def parents_of(tree):
    return {child: node for node in ast.walk(tree) for child in ast.iter_child_nodes(node)}


def bound_names(tree):
    """Each name that is bound somewhere in a file, with its row."""
    for node in ast.walk(tree):
        if isinstance(node, ast.Name) and isinstance(node.ctx, ast.Store):
            yield node.id, node.lineno
        elif isinstance(node, ast.arg):
            yield node.arg, node.lineno
        elif isinstance(node, (ast.FunctionDef, ast.ClassDef)):
            yield node.name, node.lineno


class Language(unittest.TestCase):
    def setUp(self):
        self.files = {path: path.read_text(encoding="utf-8") for path in sorted(PACKAGE.rglob("*.py"))}
        self.trees = {path: ast.parse(text) for path, text in self.files.items()}

    def nodes(self):
        for path, tree in self.trees.items():
            for node in ast.walk(tree):
                yield f"{path.name}:{getattr(node, 'lineno', 0)}", node

    def test_files(self):
        self.assertIn(PACKAGE / "tables.py", self.files)
        self.assertIn(PACKAGE / "__init__.py", self.files)
        for path in PACKAGE.rglob("*"):
            if "__pycache__" not in path.parts:
                self.assertRegex(path.name, r"^(__init__|[a-z][a-z0-9_]*)\.py$")
                self.assertNotIn(path.stem, dir(builtins))

    def test_signs_and_sizes(self):
        for path, text in self.files.items():
            self.assertIsNone(re.search(r"[^ -~\n]", text), path.name)
            self.assertIsNone(WORDS.search(text), path.name)
            self.assertLessEqual(len(text.splitlines()), 400, path.name)
            self.assertLessEqual(max(len(row) for row in text.splitlines()), 120, path.name)
        for place, node in self.nodes():
            if isinstance(node, ast.FunctionDef):
                self.assertLessEqual(node.end_lineno - node.lineno + 1, 40, place)

    def test_kinds_of_code(self):
        for place, node in self.nodes():
            self.assertIn(node.__class__.__name__, NODES, place)
            if isinstance(node, ast.Assign):
                self.assertEqual(len(node.targets), 1, place)
            if isinstance(node, ast.Constant):
                self.assertIn(node.value.__class__.__name__, ("int", "str", "bool", "NoneType"), place)
            if isinstance(node, (ast.For, ast.While)):
                self.assertEqual(node.orelse, [], place)
            if isinstance(node, ast.FunctionDef):
                self.assertEqual(node.decorator_list, [], place)
            if isinstance(node, ast.arguments):
                self.assertFalse(node.vararg or node.kwarg or node.kwonlyargs or node.posonlyargs, place)
            if isinstance(node, ast.ListComp):
                self.assertEqual(len(node.generators), 1, place)
                self.assertLessEqual(len(node.generators[0].ifs), 1, place)
            if isinstance(node, ast.Compare):
                self.check_is(place, node)

    def check_is(self, place, node):
        for sign, right in zip(node.ops, node.comparators):
            if isinstance(sign, (ast.Is, ast.IsNot)):
                self.assertIsInstance(right, ast.Constant, place)

    def test_imports(self):
        for path, tree in self.trees.items():
            for node in ast.walk(tree):
                if isinstance(node, ast.ImportFrom):
                    self.assertIn(node, tree.body)
                    self.assertEqual(node.level, 0)
                    file = ROOT / (node.module.replace(".", "/") + ".py")
                    self.assertIn(file, self.files, path.name)
                    defined = {name for name, _ in bound_names(ast.Module(self.trees[file].body, []))}
                    for name in node.names:
                        self.assertIsNone(name.asname)
                        self.assertIn(name.name, defined)

    def test_no_two_files_draw_from_one_another(self):
        drawn = {}
        for path, tree in self.trees.items():
            modules = [node.module for node in tree.body if isinstance(node, ast.ImportFrom)]
            drawn["tablesalike." + path.stem] = set(modules)
        while drawn:
            free = [name for name, modules in drawn.items() if not modules & set(drawn)]
            self.assertNotEqual(free, [], sorted(drawn))
            for name in free:
                drawn.pop(name)

    def test_the_top_of_a_file(self):
        for path, tree in self.trees.items():
            names = []
            for node in tree.body[1:]:
                place = f"{path.name}:{node.lineno}"
                self.assertIsInstance(node, (ast.ImportFrom, ast.FunctionDef, ast.Assign), place)
                if isinstance(node, ast.FunctionDef):
                    names.append(node.name)
                if isinstance(node, ast.Assign):
                    names.append(node.targets[0].id)
                    # fails of anything but plain values
                    ast.literal_eval(node.value)
            self.assertIsNotNone(ast.get_docstring(tree), path.name)
            self.assertEqual(len(names), len(set(names)), path.name)

    def test_numbers_and_texts(self):
        for place, node in self.nodes():
            if isinstance(node, ast.Constant) and isinstance(node.value, str):
                self.assertNotIn("%", node.value, place)
            if isinstance(node, ast.BinOp) and isinstance(node.op, ast.Pow):
                self.assertIn(getattr(node.right, "value", None), range(65), place)

    def test_names(self):
        for path, tree in self.trees.items():
            imported = {name.name for node in tree.body if isinstance(node, ast.ImportFrom) for name in node.names}
            bound = dict(bound_names(tree))
            for name, row in bound.items():
                self.assertRegex(name, r"^[A-Za-z][A-Za-z0-9_]*$", f"{path.name}:{row}")
                self.assertNotIn(name, dir(builtins), f"{path.name}:{row}")
                self.assertNotIn(name, imported, f"{path.name}:{row}")
            for node in ast.walk(tree):
                if isinstance(node, ast.Name):
                    known = node.id in bound or node.id in imported or node.id in OWN_NAMES
                    self.assertTrue(known, f"{path.name}:{node.lineno} {node.id}")

    def test_methods(self):
        for place, node in self.nodes():
            if isinstance(node, ast.Attribute):
                self.assertIn(node.attr, METHODS, place)

    def test_walked_on_the_spot(self):
        for path, tree in self.trees.items():
            parents = parents_of(tree)
            for node in ast.walk(tree):
                if isinstance(node, ast.Call) and isinstance(node.func, ast.Name) and node.func.id in WALKED:
                    above = parents[node]
                    loop = isinstance(above, (ast.For, ast.comprehension)) and above.iter is node
                    call = isinstance(above, ast.Call) and getattr(above.func, "id", "") in WALKERS
                    self.assertTrue(loop or call, f"{path.name}:{node.lineno}")

    def test_sets(self):
        """A set stands beside a comparison or straight within sorted or len."""
        for path, tree in self.trees.items():
            parents = parents_of(tree)
            for node in ast.walk(tree):
                if isinstance(node, ast.Call) and getattr(node.func, "id", "") in ("set", "frozenset"):
                    above = parents[node]
                    call = isinstance(above, ast.Call) and getattr(above.func, "id", "") in ("sorted", "len")
                    self.assertTrue(call or isinstance(above, ast.Compare), f"{path.name}:{node.lineno}")


if __name__ == "__main__":
    unittest.main()
