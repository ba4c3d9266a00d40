"""The package's own files against the rules of LANGUAGE.md, somewhat more strictly than these."""

import ast
import builtins
import re
import sys
import unittest
from pathlib import Path

PACKAGE = Path(__file__).resolve().parent.parent / "earthheaps"

ALLOWED_NAMES = set(
    "len range enumerate zip min max sum abs sorted reversed int str bool list tuple dict set frozenset"
    " isinstance ord repr any all divmod Exception ValueError TypeError KeyError IndexError LookupError"
    " ZeroDivisionError ArithmeticError OverflowError RuntimeError NotImplementedError AttributeError"
    " StopIteration".split())
ALLOWED_METHODS = set(
    "append clear copy count endswith extend find get index insert isalnum isalpha isdigit islower isspace"
    " isupper items join keys ljust lower lstrip partition pop remove replace reverse rfind rjust rpartition"
    " rsplit rstrip setdefault split splitlines startswith strip update upper values zfill bit_length".split())
CHANGING_METHODS = set("append clear extend insert pop remove reverse setdefault update".split())
WORDS_IN_NO_FILE = set(
    "type typing typing_extensions enum Enum IntEnum StrEnum Flag IntFlag Generic Protocol ABC ABCMeta"
    " namedtuple NamedTuple TypedDict TYPE_CHECKING abstractmethod".split())
PARTS_IN_NO_FILE = ("dataclass", "overload", "contextmanager")
NAMES_NOT_USED = set(
    "register mro elements open input version_info with_traceback add_note attrgetter breakpoint builtins"
    " compile copyright credits delattr dir eval exec exit gc getattr globals hasattr help id importlib"
    " license locals methodcaller os quit setattr super vars sys format format_map __name__".split())
STATEMENTS = (ast.Assign, ast.AugAssign, ast.If, ast.While, ast.For, ast.Return, ast.Break, ast.Continue,
              ast.Pass, ast.Raise, ast.Try, ast.Expr, ast.FunctionDef, ast.ClassDef, ast.ImportFrom)
EXPRESSIONS = (ast.BoolOp, ast.BinOp, ast.UnaryOp, ast.IfExp, ast.Dict, ast.ListComp, ast.Compare,
               ast.Call, ast.Constant, ast.Attribute, ast.Subscript, ast.Name, ast.List, ast.Tuple, ast.Slice)
OPERATORS = (ast.Add, ast.Sub, ast.Mult, ast.FloorDiv, ast.Mod, ast.Pow, ast.BitAnd, ast.BitOr, ast.BitXor,
             ast.LShift, ast.RShift)
WALKED_AT_ONCE = {"zip", "enumerate", "reversed", "range"}


def own_files():
    return sorted(PACKAGE.glob("*.py"))


def every(kind):
    """All nodes of a kind, each with what tells where it stands."""
    for path in own_files():
        for node in ast.walk(ast.parse(path.read_text())):
            if isinstance(node, kind):
                yield f"{path.name}:{getattr(node, 'lineno', 0)}", node


def bound_names(tree):
    """All names that a tree gives a meaning to."""
    for node in ast.walk(tree):
        if isinstance(node, ast.Name) and isinstance(node.ctx, ast.Store):
            yield node.id
        elif isinstance(node, (ast.FunctionDef, ast.ClassDef)):
            yield node.name
        elif isinstance(node, ast.arg):
            yield node.arg
        elif isinstance(node, ast.alias):
            yield node.asname or node.name
        elif isinstance(node, ast.ExceptHandler) and node.name:
            yield node.name


def top_names(tree):
    for node in tree.body:
        if isinstance(node, ast.ImportFrom):
            yield from [alias.asname or alias.name for alias in node.names]
        elif isinstance(node, (ast.FunctionDef, ast.ClassDef)):
            yield node.name
        elif isinstance(node, ast.Assign):
            yield from [target.id for target in node.targets]


def imports_of(tree):
    return [node for node in tree.body if isinstance(node, ast.ImportFrom)]


def is_docstring(node):
    return isinstance(node, ast.Expr) and isinstance(node.value, ast.Constant)


class Rules(unittest.TestCase):
    def setUp(self):
        self.trees = {path.stem: ast.parse(path.read_text()) for path in own_files()}

    def test_l1_l14_files(self):
        inside = [path for path in PACKAGE.iterdir() if path.name != "__pycache__"]
        self.assertIn("__init__.py", [path.name for path in inside])
        for path in inside:
            with self.subTest(path=path.name):
                self.assertTrue(path.is_file())
                self.assertRegex(path.name, r"\A([a-z][a-z0-9_]*|__init__)\.py\Z")
                self.assertNotIn(path.stem, set(dir(builtins)) | sys.stdlib_module_names)
                self.assertNotRegex(path.stem, r"\A(tests?|testing|test_.*|site|conftest|.*customize)\Z")

    def test_l2_l16_imports(self):
        for node_name, node in every(ast.Import):
            self.fail(f"{node_name}: import without from")
        for name, tree in self.trees.items():
            for node in imports_of(tree):
                with self.subTest(name, module=node.module):
                    self.assertEqual(node.level, 0)
                    package, source = node.module.split(".")
                    self.assertEqual(package, "earthheaps")
                    defined = [top.name for top in self.trees[source].body if hasattr(top, "name")]
                    for alias in node.names:
                        self.assertIn(alias.name, defined)
                        self.assertIsNone(alias.asname)
            self.assertEqual(sum(isinstance(node, ast.ImportFrom) for node in ast.walk(tree)),
                             len(imports_of(tree)), f"{name}: an import that is not at the top")

    def test_l16_no_circle_and_the_interface(self):
        drawn = {name: {node.module.split(".")[1] for node in imports_of(tree)}
                 for name, tree in self.trees.items()}
        self.assertEqual(drawn["__init__"], set())
        while drawn:
            ends = [name for name, sources in drawn.items() if not sources & set(drawn)]
            self.assertTrue(ends, f"a circle in {sorted(drawn)}")
            for name in ends:
                del drawn[name]
        homes = [name for name, tree in self.trees.items() if "answers" in top_names(tree)]
        self.assertEqual(homes, ["transport"])
        answers = [node for node in self.trees["transport"].body if getattr(node, "name", "") == "answers"]
        self.assertEqual([arg.arg for arg in answers[0].args.args], ["calls"])
        self.assertFalse(answers[0].args.defaults)

    def test_l3_top_of_a_module(self):
        for name, tree in self.trees.items():
            self.assertTrue(is_docstring(tree.body[0]), name)
            defined = set()
            for node in tree.body[1:]:
                with self.subTest(name, line=node.lineno):
                    self.assertIsInstance(node, (ast.ImportFrom, ast.FunctionDef, ast.ClassDef, ast.Assign))
                    if isinstance(node, ast.Assign):
                        self.check_plain_value(node.value, defined, within=False)
                    elif isinstance(node, ast.FunctionDef):
                        defined.add(node.name)

    def check_plain_value(self, node, functions, within):
        if isinstance(node, ast.UnaryOp):
            self.assertIsInstance(node.op, ast.USub)
            node = node.operand
        if isinstance(node, ast.Name):
            self.assertIn(node.id, functions)
        elif isinstance(node, (ast.List, ast.Dict)):
            # L15: no list or dict within another one.
            self.assertFalse(within)
            parts = node.elts if isinstance(node, ast.List) else node.keys + node.values
            for part in parts:
                self.check_plain_value(part, functions, within=True)
        elif isinstance(node, ast.Tuple):
            for part in node.elts:
                self.check_plain_value(part, functions, within=True)
        else:
            self.assertIsInstance(node, ast.Constant)

    def test_l4_l21_functions(self):
        for place, node in every(ast.FunctionDef):
            with self.subTest(place):
                self.assertFalse(node.decorator_list)
                self.assertFalse(node.args.posonlyargs or node.args.kwonlyargs)
                self.assertIsNone(node.args.vararg or node.args.kwarg or node.returns)
                for default in node.args.defaults:
                    self.assertIsInstance(default, ast.Constant)
                for arg in node.args.args:
                    self.assertIsNone(arg.annotation)

    def test_l5_l18_l28_classes(self):
        methods = set()
        for place, node in every(ast.ClassDef):
            with self.subTest(place):
                self.assertFalse(node.decorator_list or node.keywords)
                self.assertLessEqual(len(node.bases), 1)
                names = [method.name for method in node.body if isinstance(method, ast.FunctionDef)]
                self.assertEqual(len(names), len(node.body))
                self.assertEqual(len(set(names)), len(names))
                self.assertFalse({"__eq__", "__len__", "__str__", "__repr__"} & set(names))
                methods.update(names)
                for method in node.body:
                    if method.name == "__init__":
                        returned = [part for part in ast.walk(method) if isinstance(part, ast.Return)]
                        self.assertFalse(returned)
        values = {node.attr for _, node in every(ast.Attribute) if isinstance(node.ctx, ast.Store)}
        self.assertFalse(methods & values)

    def test_l6_statements(self):
        for place, node in every(ast.stmt):
            with self.subTest(place):
                self.assertIsInstance(node, STATEMENTS)
                if isinstance(node, (ast.For, ast.While)):
                    self.assertFalse(node.orelse)
                if isinstance(node, ast.Try):
                    self.assertFalse(node.finalbody)
                if isinstance(node, ast.Assign):
                    self.assertEqual(len(node.targets), 1)
        for name, tree in self.trees.items():
            for node in ast.walk(tree):
                if isinstance(node, ast.Expr) and node is not tree.body[0]:
                    self.assertIsInstance(node.value, ast.Call, f"{name}:{node.lineno}")

    def test_l7_l13_l24_l27_expressions(self):
        for place, node in every(ast.expr):
            with self.subTest(place):
                self.assertIsInstance(node, EXPRESSIONS)
                if isinstance(node, ast.Constant):
                    self.assertIn(type(node.value), (int, str, bool, type(None)))
                if isinstance(node, ast.ListComp):
                    self.assertEqual(len(node.generators), 1)
                    self.assertLessEqual(len(node.generators[0].ifs), 1)
                if isinstance(node, ast.BinOp) and isinstance(node.op, ast.Pow):
                    self.assertIsInstance(node.right, ast.Constant)
                    self.assertIn(node.right.value, range(65))
        for place, node in every(ast.operator):
            self.assertIsInstance(node, OPERATORS, place)
        for place, node in every(ast.Constant):
            if isinstance(node.value, str):
                self.assertNotIn("%", node.value, place)
            elif node.value is not None:
                self.assertLess(len(str(node.value)), 900, place)

    def test_l8_l9_names_that_are_read(self):
        for name, tree in self.trees.items():
            known = ALLOWED_NAMES | set(bound_names(tree))
            for node in ast.walk(tree):
                if isinstance(node, ast.Name):
                    self.assertIn(node.id, known, f"{name}:{node.lineno}")

    def test_l10_size(self):
        for path in own_files():
            lines = path.read_text().split("\n")
            with self.subTest(path.name):
                self.assertLessEqual(len(lines), 399)
                self.assertLessEqual(max(len(line) for line in lines), 120)
        for place, node in every(ast.FunctionDef):
            self.assertLessEqual(node.end_lineno - node.lineno + 1, 40, place)

    def test_l12_l17_names_that_are_given(self):
        for name, tree in self.trees.items():
            for bound in bound_names(tree):
                with self.subTest(name, bound=bound):
                    self.assertRegex(bound, r"\A([A-Za-z][A-Za-z0-9_]*|__init__)\Z")
                    self.assertNotIn(bound, NAMES_NOT_USED)

    def test_l14_signs(self):
        for path in own_files():
            self.assertRegex(path.read_bytes(), rb"\A[ -~\n]*\Z", path.name)
            self.assertNotRegex(path.read_text(), r"\\[^n\"'t\\]", path.name)

    def test_l15_names_bound_once(self):
        for name, tree in self.trees.items():
            tops = list(top_names(tree))
            with self.subTest(name):
                self.assertEqual(len(set(tops)), len(tops))
                self.assertFalse(set(bound_names(tree)) & set(dir(builtins)))
            fixed = {alias.name for node in imports_of(tree) for alias in node.names}
            fixed |= {node.name for node in tree.body if isinstance(node, ast.ClassDef)}
            for node in ast.walk(tree):
                if isinstance(node, ast.FunctionDef):
                    inside = set(bound_names(node)) - {node.name}
                    self.assertFalse(inside & (fixed | set(tops)), f"{name}:{node.lineno}")

    def test_l15_nothing_is_kept_at_the_top(self):
        for name, tree in self.trees.items():
            kept = {node.targets[0].id for node in tree.body if isinstance(node, ast.Assign)}
            for node in ast.walk(tree):
                with self.subTest(name, line=getattr(node, "lineno", 0)):
                    if isinstance(node, ast.Subscript) and isinstance(node.ctx, ast.Store):
                        self.assertNotIn(getattr(node.value, "id", None), kept)
                    if isinstance(node, ast.Attribute) and node.attr in CHANGING_METHODS:
                        self.assertNotIn(getattr(node.value, "id", None), kept)

    def test_l17_words(self):
        for path in own_files():
            text = path.read_text()
            self.assertFalse(set(re.findall(r"\w+", text)) & WORDS_IN_NO_FILE, path.name)
            for part in PARTS_IN_NO_FILE:
                self.assertNotIn(part, text, path.name)

    def test_l19_errors(self):
        own = {node.name for _, node in every(ast.ClassDef)}
        for place, node in every(ast.ExceptHandler):
            self.assertIn(getattr(node.type, "id", None), own | {"KeyError", "ZeroDivisionError"}, place)
        for place, node in every(ast.Raise):
            self.assertIsInstance(node.exc, ast.Call, place)
            self.assertIn(node.exc.func.id, own, place)

    def test_l20_is(self):
        for place, node in every(ast.Compare):
            for operator, right in zip(node.ops, node.comparators):
                if isinstance(operator, (ast.Is, ast.IsNot)):
                    self.assertIsInstance(right, ast.Constant, place)
                    self.assertTrue(right.value is None or isinstance(right.value, bool), place)

    def test_l22_l25_l26_calls(self):
        own = {node.name for _, node in every(ast.FunctionDef)}
        called = set()
        for place, node in every(ast.Call):
            self.assertFalse(node.keywords, place)
            if isinstance(node.func, ast.Attribute):
                called.add((place, node.func.attr))
                self.assertIn(node.func.attr, ALLOWED_METHODS | own, place)
        of_python = {name for kind in (str, int, list, dict, set, bytes) for name in dir(kind)}
        for place, node in every(ast.Attribute):
            self.assertNotIn(node.attr, NAMES_NOT_USED, place)
            if node.attr in of_python and node.attr != "__init__":
                self.assertIn((place, node.attr), called)

    def test_l23_walked_at_once(self):
        walked = [node.iter for _, node in every((ast.For, ast.comprehension))]
        kinds = [ast.dump(node, include_attributes=True) for node in walked]
        for place, node in every(ast.Call):
            if isinstance(node.func, ast.Name) and node.func.id in WALKED_AT_ONCE:
                self.assertIn(ast.dump(node, include_attributes=True), kinds, place)


if __name__ == "__main__":
    unittest.main()
