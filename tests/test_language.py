"""The package keeps to the part of Python that LANGUAGE.md tells; the rules that a walk over the code can see."""

import ast
import builtins
import pathlib
import re
import unittest

PACKAGE = pathlib.Path(__file__).resolve().parent.parent / "kindplans"

STATEMENTS = (
    ast.Assign, ast.AugAssign, ast.If, ast.While, ast.For, ast.Return, ast.Break, ast.Continue, ast.Pass, ast.Raise,
    ast.Try, ast.Expr, ast.FunctionDef, ast.ClassDef, ast.ImportFrom,
)
EXPRESSIONS = (
    ast.Constant, ast.List, ast.Tuple, ast.Dict, ast.BinOp, ast.UnaryOp, ast.BoolOp, ast.Compare, ast.IfExp, ast.Call,
    ast.Attribute, ast.Subscript, ast.Slice, ast.ListComp, ast.Name, ast.JoinedStr, ast.FormattedValue, ast.Lambda,
)
OWN_NAMES = set(
    "len range enumerate zip min max sum abs sorted reversed int str bool list tuple dict set frozenset isinstance ord "
    "repr any all divmod Exception ValueError TypeError KeyError IndexError LookupError ZeroDivisionError "
    "ArithmeticError OverflowError RuntimeError NotImplementedError AttributeError StopIteration".split()
)
METHODS = set(
    "append clear copy count endswith extend find get index insert isalnum isalpha isdigit islower isspace isupper "
    "items join keys ljust lower lstrip partition pop remove replace reverse rfind rjust rpartition rsplit rstrip "
    "setdefault split splitlines startswith strip update upper values zfill bit_length".split()
)
FORBIDDEN_WORDS = re.compile(
    r"\b(type|typing|typing_extensions|enum|Enum|IntEnum|StrEnum|Flag|IntFlag|Generic|Protocol|ABC|ABCMeta|namedtuple|"
    r"NamedTuple|TypedDict|TYPE_CHECKING|abstractmethod)\b|dataclass|overload|contextmanager"
)
WALKED = ("zip", "enumerate", "reversed", "range", "items", "keys", "values")
WALKERS = ("list", "tuple", "dict", "sorted", "sum", "any", "all", "enumerate", "zip", "min", "max")
KEYWORDS = {
    "sorted": ("key", "reverse"), "min": ("key", "default"), "max": ("key", "default"), "sum": ("start",),
    "enumerate": ("start",), "zip": ("strict",),
}
PLAIN_NAME = re.compile(r"[A-Za-z][A-Za-z0-9_]*$")


def called_name(call):
    if isinstance(call.func, ast.Name):
        return call.func.id
    return call.func.attr if isinstance(call.func, ast.Attribute) else ""


def bound_names(function):
    names = [argument.arg for argument in function.args.args]
    names += [node.id for node in ast.walk(function) if isinstance(node, ast.Name) and isinstance(node.ctx, ast.Store)]
    return names


class Module:
    def __init__(self, path):
        self.path = path
        self.source = path.read_text(encoding="utf-8")
        self.tree = ast.parse(self.source)
        self.nodes = list(ast.walk(self.tree))
        self.functions = [node for node in self.nodes if isinstance(node, ast.FunctionDef)]

    def all_of(self, *sorts):
        return [node for node in self.nodes if isinstance(node, sorts)]

    def top_names(self):
        names = [node.name for node in self.tree.body if isinstance(node, (ast.FunctionDef, ast.ClassDef))]
        return names + [node.targets[0].id for node in self.tree.body if isinstance(node, ast.Assign)]


class Language(unittest.TestCase):
    @classmethod
    def setUpClass(cls):
        cls.modules = [Module(path) for path in sorted(PACKAGE.glob("*.py"))]

    def on_each(self, check):
        for module in self.modules:
            with self.subTest(file=module.path.name):
                check(module)

    def test_files(self):
        names = [path.name for path in PACKAGE.iterdir() if path.name != "__pycache__"]
        self.assertIn("__init__.py", names)
        self.assertIn("texts.py", names)
        for name in names:
            self.assertRegex(name, r"^([a-z][a-z0-9_]*|__init__|__main__)\.py$")
            self.assertNotIn(name[:-3], dir(builtins))

    def test_signs_and_sizes(self):
        self.on_each(self.check_signs_and_sizes)

    def check_signs_and_sizes(self, module):
        rows = module.source.split("\n")
        self.assertTrue(all(" " <= sign <= "~" or sign == "\n" for sign in module.source))
        self.assertLessEqual(len(rows), 400)
        self.assertLessEqual(max(map(len, rows)), 120)
        self.assertIsNone(FORBIDDEN_WORDS.search(module.source))
        for function in module.functions:
            self.assertLessEqual(function.end_lineno - function.lineno + 1, 40, function.name)

    def test_statements_and_expressions(self):
        self.on_each(self.check_statements_and_expressions)

    def check_statements_and_expressions(self, module):
        for node in module.all_of(ast.stmt):
            self.assertIsInstance(node, STATEMENTS, ast.dump(node))
            self.assertFalse(isinstance(node, (ast.For, ast.While)) and node.orelse)
            self.assertFalse(isinstance(node, ast.Assign) and len(node.targets) != 1)
            self.assertFalse(isinstance(node, ast.Try) and node.finalbody)
            if isinstance(node, ast.Expr) and node is not module.tree.body[0]:
                self.assertIsInstance(node.value, ast.Call)
        for node in module.all_of(ast.expr):
            self.assertIsInstance(node, EXPRESSIONS, ast.dump(node))
        for node in module.all_of(ast.ListComp):
            self.assertEqual(len(node.generators), 1)
            self.assertLessEqual(len(node.generators[0].ifs), 1)

    def test_values_and_operators(self):
        self.on_each(self.check_values_and_operators)

    def check_values_and_operators(self, module):
        self.assertEqual(module.all_of(ast.Div, ast.MatMult, ast.Pow), [])
        for node in module.all_of(ast.Constant):
            self.assertIn(node.value.__class__, (int, str, bool, None.__class__))
            self.assertFalse(isinstance(node.value, str) and chr(37) in node.value)
        for node in module.all_of(ast.Compare):
            for operator, right in zip(node.ops, node.comparators):
                if isinstance(operator, (ast.Is, ast.IsNot)):
                    self.assertIsInstance(right, ast.Constant)

    def test_imports(self):
        self.on_each(self.check_imports)

    def check_imports(self, module):
        files = {"kindplans." + other.path.stem: other for other in self.modules}
        for node in module.all_of(ast.ImportFrom):
            self.assertIn(node, module.tree.body)
            self.assertEqual(node.level, 0)
            self.assertIn(node.module, files)
            for alias in node.names:
                self.assertIn(alias.name, files[node.module].top_names())
                self.assertIsNone(alias.asname)

    def test_no_two_files_draw_from_one_another(self):
        drawn = {}
        for module in self.modules:
            drawn["kindplans." + module.path.stem] = {node.module for node in module.all_of(ast.ImportFrom)}
        while drawn:
            free = [name for name in drawn if not drawn[name] & set(drawn)]
            self.assertNotEqual(free, [], "a ring of files")
            for name in free:
                drawn.pop(name)

    def test_names(self):
        self.on_each(self.check_names)

    def check_names(self, module):
        imported = [alias.name for node in module.all_of(ast.ImportFrom) for alias in node.names]
        tops = module.top_names()
        self.assertEqual(len(set(tops + imported)), len(tops + imported))
        for function in module.functions:
            self.assertEqual(function.decorator_list, [])
            self.assertIsNone(function.args.vararg or function.args.kwarg)
            self.assertEqual(function.args.kwonlyargs + function.args.posonlyargs, [])
            for name in bound_names(function):
                self.assertRegex(name, PLAIN_NAME)
                self.assertNotIn(name, dir(builtins))
                self.assertNotIn(name, tops + imported)
        for node in module.all_of(ast.Name):
            if node.id in dir(builtins):
                self.assertIn(node.id, OWN_NAMES)

    def test_values_of_the_top_are_plain(self):
        self.on_each(self.check_values_of_the_top_are_plain)

    def check_values_of_the_top_are_plain(self, module):
        for node in module.tree.body:
            if isinstance(node, ast.Assign):
                for part in ast.walk(node.value):
                    self.assertNotIsInstance(part, (ast.Call, ast.Attribute, ast.BinOp, ast.Subscript))
                inner = [part for part in ast.walk(node.value) if part is not node.value]
                self.assertFalse([part for part in inner if isinstance(part, (ast.List, ast.Dict))])

    def test_methods(self):
        self.on_each(self.check_methods)

    def check_methods(self, module):
        own = [function.name for function in module.functions]
        for node in module.all_of(ast.Call):
            if isinstance(node.func, ast.Attribute):
                self.assertIn(node.func.attr, METHODS | set(own))
        for node in module.all_of(ast.Attribute):
            if isinstance(node.ctx, ast.Store):
                for sort in (str, int, list, dict, set, bytes, tuple):
                    self.assertFalse(node.attr in dir(sort), node.attr)

    def test_keywords(self):
        self.on_each(self.check_keywords)

    def check_keywords(self, module):
        for node in module.all_of(ast.Call):
            for keyword in node.keywords:
                self.assertIn(keyword.arg, KEYWORDS.get(called_name(node), ()))
                if keyword.arg == "key":
                    self.assertIsInstance(keyword.value, (ast.Name, ast.Lambda))
                if keyword.arg in ("reverse", "strict"):
                    self.assertIsInstance(keyword.value, ast.Constant)

    def test_classes(self):
        self.on_each(self.check_classes)

    def check_classes(self, module):
        for node in module.all_of(ast.ClassDef):
            self.assertIn(node, module.tree.body)
            self.assertEqual(node.decorator_list, [])
            self.assertLessEqual(len(node.bases), 1)
            for part in node.body:
                self.assertIsInstance(part, (ast.FunctionDef, ast.Pass))

    def test_walked_at_once(self):
        self.on_each(self.check_walked_at_once)

    def check_walked_at_once(self, module):
        allowed = [node.iter for node in module.all_of(ast.For, ast.comprehension)]
        for node in module.all_of(ast.Call):
            if called_name(node) in WALKERS:
                allowed += node.args
        for node in module.all_of(ast.Call):
            if called_name(node) in WALKED:
                self.assertTrue(any(node is walked for walked in allowed), ast.dump(node))


if __name__ == "__main__":
    unittest.main()
