"""The package keeps to the small part of Python that is asked for, as far as a look at its files can tell."""

import ast
import builtins
import pathlib
import re
import unittest

PACKAGE = pathlib.Path(__file__).resolve().parent.parent / "comesback"

STATEMENTS = (
    ast.Assign, ast.AugAssign, ast.If, ast.While, ast.For, ast.Return, ast.Break, ast.Continue, ast.Pass,
    ast.Raise, ast.Try, ast.Expr, ast.FunctionDef, ast.ClassDef, ast.ImportFrom,
)
EXPRESSIONS = (
    ast.Constant, ast.List, ast.Tuple, ast.Dict, ast.BinOp, ast.UnaryOp, ast.BoolOp, ast.Compare, ast.IfExp,
    ast.Call, ast.Attribute, ast.Subscript, ast.Slice, ast.ListComp, ast.Lambda, ast.JoinedStr,
    ast.FormattedValue, ast.Name,
)
BUILT_IN = set(
    "len range enumerate zip min max sum abs sorted reversed int str bool list tuple dict set frozenset isinstance "
    "ord repr any all divmod Exception ValueError TypeError KeyError IndexError LookupError ZeroDivisionError "
    "ArithmeticError OverflowError RuntimeError NotImplementedError AttributeError StopIteration".split()
)
METHODS = set(
    "append clear copy count endswith extend find get index insert isalnum isalpha isdigit islower isspace isupper "
    "items join keys ljust lower lstrip partition pop remove replace reverse rfind rjust rpartition rsplit rstrip "
    "setdefault split splitlines startswith strip update upper values zfill bit_length".split()
)
TWO_UNDERSCORES = ("__init__", "__eq__", "__repr__", "__str__", "__len__")
UNUSED_NAMES = ("register", "mro", "elements", "open", "input", "version_info", "with_traceback", "add_note")
NOT_AS_NAMES = set(
    "attrgetter breakpoint builtins compile copyright credits delattr dir eval exec exit gc getattr globals hasattr "
    "help id importlib license locals methodcaller os quit setattr super type vars sys".split()
)
# What a method and what a value of an object may be called although Python's own values have it.
FREE_METHODS = METHODS | {"add", "discard"} | set(TWO_UNDERSCORES)
FREE_VALUES = set("count index title find get join lower upper split strip copy add".split())
WALKED = ("zip", "enumerate", "reversed", "range", "items", "keys", "values")
WALKING = ("list", "tuple", "dict", "sorted", "sum", "any", "all", "enumerate", "zip", "min", "max")
UNUSED_WORDS = re.compile(
    r"\b(type|typing|typing_extensions|enum|Enum|IntEnum|StrEnum|Flag|IntFlag|Generic|Protocol|ABC|ABCMeta|"
    r"namedtuple|NamedTuple|TypedDict|TYPE_CHECKING|abstractmethod)\b|dataclass|overload|contextmanager"
)


def python_s_own():
    """What Python's own texts, numbers, lists, dicts, sets and bytes have as a method or a value."""
    return {name for kind in (str, int, list, tuple, dict, set, frozenset, bytes) for name in dir(kind)}


def called_name(node):
    """What a call calls, without what stands before the dot; None where it's no call."""
    if not isinstance(node, ast.Call):
        return None
    return node.func.attr if isinstance(node.func, ast.Attribute) else node.func.id


def sources():
    return sorted(PACKAGE.glob("*.py"))


def nodes():
    for path in sources():
        for node in ast.walk(ast.parse(path.read_text("utf-8"))):
            yield path.name, node


class LanguageTest(unittest.TestCase):

    def test_files(self):
        for path in PACKAGE.iterdir():
            if path.name != "__pycache__":
                self.assertRegex(path.name, r"^[a-z0-9_]+\.py$")
        self.assertIn(PACKAGE / "__init__.py", sources())
        self.assertIn(PACKAGE / "office.py", sources())

    def test_signs_words_and_size(self):
        for path in sources():
            content = path.read_bytes().decode("utf-8")
            self.assertRegex(content, r"\A[ -~\n]*\Z")
            self.assertIsNone(UNUSED_WORDS.search(content))
            rows = content.splitlines()
            self.assertLessEqual(len(rows), 400)
            self.assertLessEqual(max(len(row) for row in rows), 120)

    def test_statements_and_expressions(self):
        for name, node in nodes():
            if isinstance(node, ast.stmt):
                self.assertIsInstance(node, STATEMENTS, (name, node.lineno))
            if isinstance(node, ast.expr):
                self.assertIsInstance(node, EXPRESSIONS, (name, node.lineno))
            if isinstance(node, ast.Assign):
                self.assertEqual(len(node.targets), 1)
                self.assertIsInstance(node.targets[0], (ast.Name, ast.Attribute, ast.Subscript))
            if isinstance(node, (ast.While, ast.For)):
                self.assertEqual(node.orelse, [])
            if isinstance(node, ast.Constant):
                self.assertIn(type(node.value), (int, str, bool, type(None)))
            if isinstance(node, (ast.Div, ast.MatMult)):
                self.fail((name, "division"))

    def test_functions(self):
        for name, node in nodes():
            if isinstance(node, ast.FunctionDef):
                told = node.args
                self.assertLessEqual(node.end_lineno - node.lineno + 1, 40, node.name)
                self.assertEqual(node.decorator_list, [])
                self.assertEqual((told.vararg, told.kwarg, told.kwonlyargs, told.posonlyargs), (None, None, [], []))
                self.assertEqual([one.annotation for one in told.args if one.annotation], [])
                self.assertIsNone(node.returns)

    def test_imports_are_the_package_s_own(self):
        for name, node in nodes():
            if isinstance(node, ast.ImportFrom):
                self.assertEqual(node.level, 0)
                self.assertTrue(node.module.startswith("comesback."))

    def test_names(self):
        for name, node in nodes():
            for given in self.names_of(node):
                self.assertNotIn(given, UNUSED_NAMES)
                if not isinstance(node, ast.Attribute):
                    self.assertNotIn(given, NOT_AS_NAMES)
                if given not in TWO_UNDERSCORES:
                    self.assertRegex(given, r"^[A-Za-z][A-Za-z0-9_]*$")
            if isinstance(node, ast.Name) and hasattr(builtins, node.id):
                self.assertIn(node.id, BUILT_IN)
                self.assertIsInstance(node.ctx, ast.Load)
            if isinstance(node, ast.arg):
                self.assertFalse(hasattr(builtins, node.arg))

    def names_of(self, node):
        if isinstance(node, ast.Name):
            return [node.id]
        if isinstance(node, ast.Attribute):
            return [node.attr]
        if isinstance(node, ast.arg):
            return [node.arg]
        if isinstance(node, (ast.FunctionDef, ast.ClassDef)):
            return [node.name]
        return []

    def test_methods_and_values(self):
        own_methods = set()
        called = set()
        values = set()
        for name, node in nodes():
            if isinstance(node, ast.ClassDef):
                own_methods.update(one.name for one in node.body if isinstance(one, ast.FunctionDef))
            if isinstance(node, ast.Call) and isinstance(node.func, ast.Attribute):
                called.add(node.func.attr)
            if isinstance(node, ast.Attribute) and isinstance(node.ctx, ast.Store):
                values.add(node.attr)
        self.assertEqual(called - own_methods - METHODS, set())
        self.assertEqual(own_methods & values, set())
        self.assertEqual((own_methods - FREE_METHODS) & python_s_own(), set())
        self.assertEqual((values - FREE_VALUES) & python_s_own(), set())

    def test_values_are_given_through_a_local_name(self):
        for name, node in nodes():
            if isinstance(node, ast.Attribute) and isinstance(node.ctx, ast.Store):
                self.assertIsInstance(node.value, ast.Name, (name, node.lineno))
                self.assertTrue(node.value.id.islower(), (name, node.lineno))

    def test_walked_on_the_spot(self):
        for name, node in nodes():
            for part in ast.iter_child_nodes(node):
                if called_name(part) in WALKED:
                    behind_in = isinstance(node, (ast.For, ast.comprehension)) and part is node.iter
                    self.assertTrue(behind_in or called_name(node) in WALKING, (name, part.lineno))

    def test_the_top_of_a_module_binds_each_name_once(self):
        for path in sources():
            bound = []
            for node in ast.parse(path.read_text("utf-8")).body:
                self.assertIsInstance(node, (ast.Expr, ast.ImportFrom, ast.Assign, ast.FunctionDef, ast.ClassDef))
                if isinstance(node, ast.Expr):
                    self.assertIsInstance(node.value, ast.Constant)
                if isinstance(node, ast.Assign):
                    ast.literal_eval(node.value)
                    bound.append(node.targets[0].id)
                if isinstance(node, (ast.FunctionDef, ast.ClassDef)):
                    bound.append(node.name)
            self.assertEqual(len(set(bound)), len(bound))

    def test_a_class_has_each_method_once_and_nothing_else(self):
        for name, node in nodes():
            if isinstance(node, ast.ClassDef):
                self.assertEqual(node.decorator_list + node.bases, [])
                methods = [one for one in node.body if not isinstance(one, ast.Expr)]
                self.assertEqual([one for one in methods if not isinstance(one, ast.FunctionDef)], [])
                self.assertEqual(len({one.name for one in methods}), len(methods))

    def test_is_stands_beside_none_true_and_false(self):
        for name, node in nodes():
            if isinstance(node, ast.Compare):
                for sign, beside in zip(node.ops, node.comparators):
                    if isinstance(sign, (ast.Is, ast.IsNot)):
                        self.assertIn(ast.unparse(beside), ("None", "True", "False"))


if __name__ == "__main__":
    unittest.main()
