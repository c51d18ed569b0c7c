"""The package keeps to the small part of Python that it is written in (the rules L1 to L28, as far as they are seen here)."""

import ast
import builtins
import pathlib
import re
import unittest

PACKAGE = pathlib.Path(__file__).resolve().parent.parent / "equationproofs"
FILES = sorted(path for path in PACKAGE.rglob("*") if "__pycache__" not in path.parts and path.is_file())
NODES = tuple(getattr(ast, name) for name in (
    "Module ImportFrom alias FunctionDef ClassDef arguments arg Assign AugAssign If While For Return Break Continue Pass "
    "Raise Try ExceptHandler Expr Constant List Tuple Dict BinOp UnaryOp BoolOp Compare IfExp Call keyword Attribute "
    "Subscript Slice ListComp comprehension JoinedStr FormattedValue Name Lambda "
    "Add Sub Mult FloorDiv Mod Pow BitAnd BitOr BitXor LShift RShift USub UAdd Invert Not And Or "
    "Eq NotEq Lt LtE Gt GtE Is IsNot In NotIn Load Store"
).split())
OWN_NAMES = set((
    "len range enumerate zip min max sum abs sorted reversed int str bool list tuple dict set frozenset isinstance ord repr "
    "any all divmod Exception ValueError KeyError IndexError LookupError ZeroDivisionError ArithmeticError OverflowError "
    "RuntimeError NotImplementedError StopIteration"
).split())
METHODS = set((
    "append clear copy count endswith extend find get index insert isalnum isalpha isdigit islower isspace isupper items "
    "join keys ljust lower lstrip partition pop remove replace reverse rfind rjust rpartition rsplit rstrip setdefault split "
    "splitlines startswith strip update upper values zfill bit_length"
).split())
UNUSED_WORDS = re.compile(
    r"\b(type|typing|typing_extensions|enum|Enum|IntEnum|StrEnum|Flag|IntFlag|Generic|Protocol|ABC|ABCMeta|namedtuple|"
    r"NamedTuple|TypedDict|TYPE_CHECKING|abstractmethod)\b|dataclass|overload|contextmanager"
)
UNUSED_NAMES = set("register mro elements open input version_info with_traceback add_note format format_map args sort".split())
BUILTIN_ATTRIBUTES = set(name for kind in (str, int, list, dict, set, bytes, tuple) for name in dir(kind))
SPECIAL = {"__init__", "__eq__", "__repr__", "__str__", "__len__"}


def local_names(function):
    for node in ast.walk(function):
        if isinstance(node, ast.arg):
            yield node.arg
        if isinstance(node, ast.Name) and isinstance(node.ctx, ast.Store):
            yield node.id


class Language(unittest.TestCase):
    def setUp(self):
        self.trees = [(path, ast.parse(path.read_text())) for path in FILES]

    def nodes(self, *kinds):
        for path, tree in self.trees:
            for node in ast.walk(tree):
                if isinstance(node, kinds or ast.AST):
                    yield f"{path.name}:{getattr(node, 'lineno', 0)}", node

    def test_files(self):
        self.assertIn(PACKAGE / "__init__.py", FILES)
        for path in FILES:
            self.assertEqual(path.parent, PACKAGE)
            self.assertRegex(path.name, r"^[a-z_][a-z0-9_]*\.py$")
            self.assertFalse(path.stem in dir(builtins) or path.stem.startswith("test") or path.stem in ("site", "conftest"))

    def test_rows(self):
        for path in FILES:
            text = path.read_bytes().decode("ascii")
            self.assertRegex(text, r"\A[ -~\n]*\Z")
            self.assertLessEqual(len(text.split("\n")), 400)
            self.assertLessEqual(max(map(len, text.split("\n"))), 120)
            self.assertIsNone(UNUSED_WORDS.search(text), path)

    def test_size_of_functions(self):
        for place, node in self.nodes(ast.FunctionDef):
            self.assertLessEqual(node.end_lineno - node.lineno + 1, 40, place)

    def test_kinds_of_nodes(self):
        for place, node in self.nodes():
            self.assertIsInstance(node, NODES, place)

    def test_statements(self):
        docstrings = [tree.body[0] for path, tree in self.trees]
        for place, node in self.nodes(ast.Expr):
            self.assertTrue(isinstance(node.value, ast.Call) or node in docstrings, place)
        for place, node in self.nodes(ast.Assign):
            self.assertEqual(len(node.targets), 1, place)
            self.assertNotIsInstance(node.targets[0], ast.Tuple, place)
        for place, node in self.nodes(ast.For, ast.While):
            self.assertEqual(node.orelse, [], place)
        for place, node in self.nodes(ast.Try):
            self.assertEqual(node.finalbody, [], place)

    def test_top_of_modules(self):
        for path, tree in self.trees:
            bound = []
            for node in tree.body[1:]:
                self.assertIsInstance(node, (ast.ImportFrom, ast.FunctionDef, ast.ClassDef, ast.Assign), path)
                if isinstance(node, ast.Assign):
                    self.assertIsInstance(node.value, (ast.Constant, ast.List, ast.Tuple, ast.Dict), path)
                    bound.append(node.targets[0].id)
                elif isinstance(node, ast.ImportFrom):
                    bound.extend(alias.name for alias in node.names)
                else:
                    bound.append(node.name)
            self.assertEqual(len(bound), len(set(bound)), path)

    def test_imports(self):
        defined = {path.stem: [getattr(node, "name", None) or node.targets[0].id for node in tree.body[1:]
                               if not isinstance(node, ast.ImportFrom)] for path, tree in self.trees}
        drawn = {path.stem: [] for path, tree in self.trees}
        for path, tree in self.trees:
            for node in ast.walk(tree):
                if isinstance(node, ast.ImportFrom):
                    self.assertIn(node, tree.body)
                    self.assertRegex(node.module, r"^equationproofs\.")
                    drawn[path.stem].append(node.module.split(".")[1])
                    for alias in node.names:
                        self.assertIsNone(alias.asname)
                        self.assertIn(alias.name, defined[node.module.split(".")[1]])
        while drawn:
            free = [name for name in drawn if not any(other in drawn for other in drawn[name])]
            self.assertTrue(free, "files draw from one another")
            for name in free:
                drawn.pop(name)

    def test_functions_and_classes(self):
        for place, node in self.nodes(ast.FunctionDef):
            self.assertEqual((node.decorator_list, node.returns, node.args.vararg, node.args.kwarg), ([], None, None, None), place)
            self.assertEqual((node.args.kwonlyargs, node.args.posonlyargs), ([], []), place)
        for place, node in self.nodes(ast.arg):
            self.assertIsNone(node.annotation, place)
        for place, node in self.nodes(ast.ClassDef):
            self.assertEqual((node.decorator_list, node.keywords), ([], []), place)
            for inner in node.body:
                self.assertIsInstance(inner, ast.FunctionDef, place)

    def test_names(self):
        for place, node in self.nodes(ast.Name, ast.Attribute, ast.FunctionDef, ast.ClassDef, ast.arg):
            name = next(getattr(node, key) for key in ("id", "attr", "name", "arg") if hasattr(node, key))
            self.assertTrue(name in SPECIAL or re.fullmatch("[A-Za-z][A-Za-z0-9_]*", name), place)
            self.assertNotIn(name, UNUSED_NAMES, place)
        for place, node in self.nodes(ast.Name):
            if node.id in dir(builtins):
                self.assertIn(node.id, OWN_NAMES, place)
                self.assertIsInstance(node.ctx, ast.Load, place)

    def test_locals(self):
        for path, tree in self.trees:
            taken = set(dir(builtins))
            for node in tree.body:
                if isinstance(node, ast.ImportFrom):
                    taken.update(alias.name for alias in node.names)
                elif isinstance(node, (ast.ClassDef, ast.FunctionDef)):
                    taken.add(node.name)
            for node in tree.body:
                if isinstance(node, (ast.ClassDef, ast.FunctionDef)):
                    self.assertEqual(taken.intersection(local_names(node)), set(), path)

    def test_attributes(self):
        for path, tree in self.trees:
            called = {id(node.func) for node in ast.walk(tree) if isinstance(node, ast.Call)}
            for node in ast.walk(tree):
                if isinstance(node, ast.Attribute):
                    place = f"{path.name}:{node.lineno}"
                    if id(node) in called:
                        self.assertIn(node.attr, METHODS, place)
                    else:
                        self.assertNotIn(node.attr, BUILTIN_ATTRIBUTES, place)

    def test_expressions(self):
        for place, node in self.nodes(ast.Compare):
            for operator, right in zip(node.ops, node.comparators):
                if isinstance(operator, (ast.Is, ast.IsNot)):
                    self.assertTrue(isinstance(right, ast.Constant) and right.value in (None, True, False), place)
        for place, node in self.nodes(ast.ListComp):
            self.assertEqual(len(node.generators), 1, place)
            self.assertLessEqual(len(node.generators[0].ifs), 1, place)
        for place, node in self.nodes(ast.FormattedValue):
            self.assertIsInstance(node.value, ast.Name, place)
            self.assertIsNone(node.format_spec, place)
        for place, node in self.nodes(ast.Constant):
            self.assertTrue(node.value is None or isinstance(node.value, (int, str)), place)
            self.assertFalse(isinstance(node.value, str) and "%" in node.value, place)
        for place, node in self.nodes(ast.BinOp):
            self.assertFalse(isinstance(node.op, ast.Pow) and not isinstance(node.right, ast.Constant), place)

    def test_walked_at_once(self):
        for path, tree in self.trees:
            walked = [node.iter for node in ast.walk(tree) if isinstance(node, (ast.For, ast.comprehension))]
            walked += [node.args[0] for node in ast.walk(tree) if isinstance(node, ast.Call) and node.args
                       and isinstance(node.func, ast.Name) and node.func.id in OWN_NAMES]
            for node in ast.walk(tree):
                if isinstance(node, ast.Call) and isinstance(node.func, ast.Name):
                    if node.func.id in ("zip", "enumerate", "reversed", "range", "set"):
                        self.assertIn(node, walked, f"{path.name}:{node.lineno}")

    def test_keywords(self):
        allowed = {"sorted": {"key", "reverse"}, "min": {"key", "default"}, "max": {"key", "default"}, "sum": {"start"},
                   "enumerate": {"start"}, "zip": {"strict"}}
        own = {node.name for place, node in self.nodes(ast.FunctionDef)}
        for place, node in self.nodes(ast.Call):
            if node.keywords:
                self.assertIsInstance(node.func, ast.Name, place)
                if node.func.id not in own:
                    self.assertLessEqual({keyword.arg for keyword in node.keywords}, allowed.get(node.func.id, set()), place)

    def test_names_of_the_top_are_only_read(self):
        for path, tree in self.trees:
            kept = {}
            for node in tree.body:
                if isinstance(node, ast.Assign) and isinstance(node.value, (ast.List, ast.Dict)):
                    kept[node.targets[0].id] = node
                    for inner in ast.walk(node.value):
                        self.assertFalse(inner is not node.value and isinstance(inner, (ast.List, ast.Dict)), path)
            read = set()
            for node in ast.walk(tree):
                if isinstance(node, ast.Subscript) and isinstance(node.ctx, ast.Load):
                    read.add(node.value)
                elif isinstance(node, ast.Compare):
                    read.update(node.comparators)
                elif isinstance(node, (ast.For, ast.comprehension)):
                    read.add(node.iter)
            for node in ast.walk(tree):
                if isinstance(node, ast.Name) and isinstance(node.ctx, ast.Load) and node.id in kept:
                    self.assertIn(node, read, f"{path.name}:{node.lineno}")

    def test_classes_are_called_or_asked_for(self):
        classes = {node.name for place, node in self.nodes(ast.ClassDef)}
        for path, tree in self.trees:
            used = set()
            for node in ast.walk(tree):
                if isinstance(node, ast.Call):
                    used.add(node.func)
                    if isinstance(node.func, ast.Name) and node.func.id == "isinstance":
                        used.add(node.args[1])
                elif isinstance(node, ast.ClassDef):
                    used.update(node.bases)
                elif isinstance(node, ast.ExceptHandler):
                    used.add(node.type)
            for node in ast.walk(tree):
                if isinstance(node, ast.Name) and node.id in classes:
                    self.assertIn(node, used, f"{path.name}:{node.lineno}")

    def test_own_values_are_no_methods(self):
        methods = {inner.name for place, node in self.nodes(ast.ClassDef) for inner in node.body}
        stored = {node.attr for place, node in self.nodes(ast.Attribute) if isinstance(node.ctx, ast.Store)}
        self.assertEqual(methods & stored, set())
        for place, node in self.nodes(ast.Attribute):
            if isinstance(node.ctx, ast.Store):
                self.assertIsInstance(node.value, ast.Name, place)

    def test_errors(self):
        for place, node in self.nodes(ast.ExceptHandler):
            self.assertIsNotNone(node.type, place)
            for inner in ast.walk(node.type):
                if isinstance(inner, ast.Name):
                    self.assertNotIn(inner.id, ("Exception", "TypeError"), place)

    def test_sets_and_escapes(self):
        for path, tree in self.trees:
            beside = set()
            for node in ast.walk(tree):
                if isinstance(node, ast.Compare):
                    beside.update([node.left] + node.comparators)
                elif isinstance(node, ast.Call) and isinstance(node.func, ast.Name) and node.func.id in ("sorted", "len"):
                    beside.update(inner for inner in ast.walk(node.args[0]))
            for node in ast.walk(tree):
                if isinstance(node, ast.Call) and isinstance(node.func, ast.Name) and node.func.id in ("set", "frozenset"):
                    self.assertIn(node, beside, f"{path.name}:{node.lineno}")
            self.assertIsNone(re.search(r"""\\[^nt\\'"]""", path.read_text()), path)


if __name__ == "__main__":
    unittest.main()
