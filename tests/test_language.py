"""The package keeps to the small part of Python that it is written in."""

import ast
import builtins
import pathlib
import re
import unittest

PACKAGE = pathlib.Path(__file__).resolve().parent.parent / "foldmaps"

STATEMENTS = (
    ast.FunctionDef, ast.ClassDef, ast.Return, ast.Assign, ast.AugAssign, ast.For, ast.While, ast.If, ast.Raise,
    ast.Try, ast.ImportFrom, ast.Expr, ast.Pass, ast.Break, ast.Continue)
EXPRESSIONS = (
    ast.BoolOp, ast.BinOp, ast.UnaryOp, ast.Lambda, ast.IfExp, ast.Dict, ast.ListComp, ast.Compare, ast.Call,
    ast.JoinedStr, ast.FormattedValue, ast.Constant, ast.Attribute, ast.Subscript, ast.Name, ast.List, ast.Tuple,
    ast.Slice)
OWN_NAMES = set(
    "len range enumerate zip min max sum abs sorted reversed int str bool list tuple dict set frozenset isinstance "
    "ord repr any all divmod Exception ValueError TypeError KeyError IndexError LookupError ZeroDivisionError "
    "ArithmeticError OverflowError RuntimeError NotImplementedError AttributeError StopIteration".split())
OWN_METHODS = set(
    "append clear copy count endswith extend find get index insert isalnum isalpha isdigit islower isspace isupper "
    "items join keys ljust lower lstrip partition pop remove replace reverse rfind rjust rpartition rsplit rstrip "
    "setdefault split splitlines startswith strip update upper values zfill bit_length".split())
UNUSED_NAMES = set(
    "register mro elements open input version_info with_traceback add_note attrgetter breakpoint builtins compile "
    "copyright credits delattr dir eval exec exit gc getattr globals hasattr help id importlib license locals "
    "methodcaller os quit setattr super type vars sys".split())
UNUSED_WORDS = re.compile(
    r"\b(type|typing|typing_extensions|enum|Enum|IntEnum|StrEnum|Flag|IntFlag|Generic|Protocol|ABC|ABCMeta|"
    r"namedtuple|NamedTuple|TypedDict|TYPE_CHECKING|abstractmethod)\b|dataclass|overload|contextmanager")
WALKERS = ("list", "tuple", "dict", "sorted", "sum", "any", "all", "enumerate", "zip", "min", "max")
BUILT_IN_METHODS = {name for kind in (str, int, list, tuple, dict, set, frozenset, bytes) for name in dir(kind)}


class Language(unittest.TestCase):
    def setUp(self):
        self.files = sorted(path for path in PACKAGE.iterdir() if path.name != "__pycache__")
        self.texts = {path.name: path.read_text(encoding="utf-8") for path in self.files}
        self.trees = {name: ast.parse(text) for name, text in self.texts.items()}

    def nodes(self, *kinds):
        for name, tree in self.trees.items():
            for node in ast.walk(tree):
                if isinstance(node, kinds):
                    yield f"{name}:{getattr(node, 'lineno', 0)}", node

    def test_files(self):
        for path in self.files:
            self.assertTrue(path.is_file(), path)
            self.assertRegex(path.name, r"^(__init__|[a-z][a-z0-9_]*)\.py$")
            self.assertNotIn(path.stem, vars(builtins), path)
        self.assertIn("__init__.py", self.texts)
        self.assertIn("maps.py", self.texts)

    def test_signs_and_sizes(self):
        for name, text in self.texts.items():
            self.assertRegex(text, r"\A[ -~\n]*\Z", name)
            rows = text.splitlines()
            self.assertLessEqual(len(rows), 400, name)
            self.assertLessEqual(max(len(row) for row in rows), 120, name)
            self.assertIsNone(UNUSED_WORDS.search(text), name)
        for place, node in self.nodes(ast.FunctionDef):
            self.assertLessEqual(node.end_lineno - node.lineno + 1, 40, place)

    def test_imports(self):
        for place, node in self.nodes(ast.Import, ast.ImportFrom):
            self.assertIsInstance(node, ast.ImportFrom, place)
            self.assertEqual(node.level, 0, place)
            self.assertRegex(node.module, r"^foldmaps\.[a-z0-9_]+$", place)
            defined = self.trees[node.module.split(".")[1] + ".py"].body
            names = [one.name for one in defined if isinstance(one, (ast.FunctionDef, ast.ClassDef))]
            names += [one.targets[0].id for one in defined if isinstance(one, ast.Assign)]
            for alias in node.names:
                self.assertIn(alias.name, names, place)
                self.assertIsNone(alias.asname, place)

    def test_no_two_files_draw_from_one_another(self):
        drawn = {}
        for name, tree in self.trees.items():
            imports = [node for node in tree.body if isinstance(node, ast.ImportFrom)]
            drawn[name] = {node.module.split(".")[1] + ".py" for node in imports}
        left = dict(drawn)
        while left:
            free = [name for name in left if not left[name] & set(left)]
            self.assertTrue(free, f"these draw from one another: {sorted(left)}")
            for name in free:
                del left[name]

    def test_each_name_is_bound_once_at_the_top(self):
        for name, tree in self.trees.items():
            bound = []
            for node in tree.body:
                if isinstance(node, ast.Assign):
                    self.assertIsInstance(ast.literal_eval(node.value), (int, str), f"{name}:{node.lineno}")
                    bound.append(node.targets[0].id)
                elif isinstance(node, ast.ImportFrom):
                    bound += [alias.name for alias in node.names]
                elif isinstance(node, (ast.FunctionDef, ast.ClassDef)):
                    bound.append(node.name)
                else:
                    self.assertIsInstance(node.value, ast.Constant, f"{name}:{node.lineno}")
            self.assertEqual(len(bound), len(set(bound)), name)

    def test_forms(self):
        for place, node in self.nodes(ast.stmt):
            self.assertIsInstance(node, STATEMENTS, place)
        for place, node in self.nodes(ast.expr):
            self.assertIsInstance(node, EXPRESSIONS, place)
        for place, node in self.nodes(ast.Assign):
            self.assertEqual(len(node.targets), 1, place)
            self.assertNotIsInstance(node.targets[0], (ast.Tuple, ast.List), place)
        for place, node in self.nodes(ast.For, ast.While):
            self.assertEqual(node.orelse, [], place)
        for place, node in self.nodes(ast.ListComp):
            self.assertEqual(len(node.generators), 1, place)
            self.assertLessEqual(len(node.generators[0].ifs), 1, place)
        for place, node in self.nodes(ast.Div, ast.MatMult):
            self.fail(f"{place}: not in the language")
        for place, node in self.nodes(ast.Constant):
            self.assertIn(type(node.value), (int, str, bool, type(None)), place)

    def test_functions(self):
        for place, node in self.nodes(ast.FunctionDef, ast.ClassDef):
            self.assertEqual(node.decorator_list, [], place)
        for place, node in self.nodes(ast.arguments):
            self.assertEqual([node.vararg, node.kwarg, node.kwonlyargs, node.posonlyargs], [None, None, [], []], place)

    def test_names(self):
        for place, node in self.nodes(ast.Name):
            bound = isinstance(node.ctx, ast.Store)
            self.assertRegex(node.id, r"^[A-Za-z]\w*$", place)
            self.assertNotIn(node.id, UNUSED_NAMES, place)
            if node.id in vars(builtins):
                self.assertIn(node.id, OWN_NAMES, place)
                self.assertFalse(bound, place)
        for place, node in self.nodes(ast.arg):
            self.assertNotIn(node.arg, vars(builtins), place)
            self.assertRegex(node.arg, r"^[A-Za-z]\w*$", place)
        for place, node in self.nodes(ast.FunctionDef, ast.ClassDef):
            self.assertRegex(node.name, r"^([A-Za-z]\w*|__(init|eq|repr|str|len)__)$", place)
            self.assertNotIn(node.name, vars(builtins), place)

    def test_no_local_is_called_like_an_import_or_a_class(self):
        for name, tree in self.trees.items():
            taken = {alias.name for node in tree.body if isinstance(node, ast.ImportFrom) for alias in node.names}
            taken |= {node.name for node in tree.body if isinstance(node, ast.ClassDef)}
            for node in ast.walk(tree):
                if isinstance(node, ast.Name) and isinstance(node.ctx, ast.Store):
                    self.assertNotIn(node.id, taken, f"{name}:{node.lineno}")
                if isinstance(node, ast.arg):
                    self.assertNotIn(node.arg, taken, f"{name}:{node.lineno}")

    def test_methods(self):
        own = {node.name for place, node in self.nodes(ast.FunctionDef)}
        for place, node in self.nodes(ast.Call):
            if isinstance(node.func, ast.Attribute):
                self.assertIn(node.func.attr, OWN_METHODS | own, place)
        for place, node in self.nodes(ast.Attribute):
            self.assertNotIn(node.attr, UNUSED_NAMES | {"format", "format_map"}, place)

    def test_no_name_is_a_method_and_a_value(self):
        methods = []
        for place, node in self.nodes(ast.ClassDef):
            own = [one.name for one in node.body if isinstance(one, ast.FunctionDef)]
            self.assertEqual(len(own), len(set(own)), place)
            methods += own
        for place, node in self.nodes(ast.Attribute):
            if isinstance(node.ctx, ast.Store):
                self.assertNotIn(node.attr, methods, place)
                self.assertNotIn(node.attr, BUILT_IN_METHODS, place)
        for name in methods:
            self.assertNotIn(name, BUILT_IN_METHODS - {"__init__"})

    def test_is_stands_beside_none_true_and_false(self):
        for place, node in self.nodes(ast.Compare):
            for operator, right in zip(node.ops, node.comparators):
                if isinstance(operator, (ast.Is, ast.IsNot)):
                    self.assertIn(ast.unparse(right), ("None", "True", "False"), place)

    def test_ranges_are_walked_and_sets_are_used_on_the_spot(self):
        for name, tree in self.trees.items():
            above = {inner: outer for outer in ast.walk(tree) for inner in ast.iter_child_nodes(outer)}
            for node in ast.walk(tree):
                if not isinstance(node, ast.Call):
                    continue
                called = ast.unparse(node.func).split(".")[-1]
                outer = above[node]
                place = f"{name}:{node.lineno}"
                if called in ("range", "zip", "enumerate", "reversed", "items", "keys", "values"):
                    if isinstance(outer, ast.Call):
                        self.assertIn(ast.unparse(outer.func), WALKERS, place)
                        self.assertIs(outer.args[0], node, place)
                    else:
                        self.assertIsInstance(outer, (ast.For, ast.comprehension), place)
                if called == "set":
                    self.assertIsInstance(outer, ast.Call, place)
                    self.assertIn(ast.unparse(outer.func), ("sorted", "len"), place)
                    self.assertEqual(outer.keywords, [], place)

    def test_no_power_but_with_a_written_exponent(self):
        for place, node in self.nodes(ast.BinOp):
            if isinstance(node.op, ast.Pow):
                self.assertIsInstance(node.right, ast.Constant, place)
            self.assertNotIsInstance(node.op, (ast.LShift, ast.RShift), place)


if __name__ == "__main__":
    unittest.main()
