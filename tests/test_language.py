"""The package keeps to its small part of Python: the rules that can be seen in the code."""

import ast
import re
import unittest
from pathlib import Path

PACKAGE = Path(__file__).resolve().parent.parent / "shapedots"

STATEMENTS = (
    ast.Assign, ast.AugAssign, ast.If, ast.While, ast.For, ast.Return, ast.Break, ast.Continue, ast.Pass, ast.Raise,
    ast.Try, ast.Expr, ast.FunctionDef, ast.ClassDef, ast.ImportFrom,
)
EXPRESSIONS = (
    ast.Constant, ast.List, ast.Tuple, ast.Dict, ast.BinOp, ast.UnaryOp, ast.BoolOp, ast.Compare, ast.IfExp, ast.Call,
    ast.Attribute, ast.Subscript, ast.Slice, ast.Name, ast.ListComp, ast.Lambda, ast.JoinedStr, ast.FormattedValue,
)
OWN_OF_PYTHON = set(
    """len range enumerate zip min max sum abs sorted reversed int str bool list tuple dict set frozenset isinstance ord
    repr any all divmod Exception ValueError TypeError KeyError IndexError LookupError ZeroDivisionError
    ArithmeticError OverflowError RuntimeError NotImplementedError AttributeError StopIteration""".split()
)
METHODS_OF_PYTHON = set(
    """append clear copy count endswith extend find get index insert isalnum isalpha isdigit islower isspace isupper
    items join keys ljust lower lstrip partition pop remove replace reverse rfind rjust rpartition rsplit rstrip
    setdefault split splitlines startswith strip update upper values zfill bit_length""".split()
)
UNUSED_NAMES = set(
    """register mro elements open input version_info with_traceback add_note attrgetter breakpoint builtins compile
    copyright credits delattr dir eval exec exit gc getattr globals hasattr help id importlib license locals
    methodcaller os quit setattr super type vars sys format format_map chr print""".split()
)
UNUSED_WORDS = re.compile(
    r"\b(type|typing|typing_extensions|enum|Enum|IntEnum|StrEnum|Flag|IntFlag|Generic|Protocol|ABC|ABCMeta|namedtuple"
    r"|NamedTuple|TypedDict|TYPE_CHECKING|abstractmethod)\b|dataclass|overload|contextmanager"
)


def files():
    return sorted(PACKAGE.rglob("*.py"))


def trees():
    return [(file.name, ast.parse(file.read_text())) for file in files()]


def nodes(*kinds):
    return [(name, node) for name, tree in trees() for node in ast.walk(tree) if isinstance(node, kinds)]


def is_plain(node):
    if isinstance(node, (ast.Tuple, ast.List)):
        return all(is_plain(inner) for inner in node.elts)
    if isinstance(node, ast.Dict):
        return all(is_plain(inner) for inner in node.keys + node.values)
    if isinstance(node, ast.UnaryOp):
        return isinstance(node.op, ast.USub) and is_plain(node.operand)
    return isinstance(node, (ast.Constant, ast.Name))


class Files(unittest.TestCase):
    def test_only_python_files_lie_there(self):
        self.assertTrue(files())
        for file in PACKAGE.rglob("*"):
            if "__pycache__" not in file.parts:
                self.assertRegex(file.name, r"^(__init__|[a-z][a-z0-9_]*)\.py$")

    def test_signs_and_lengths(self):
        for file in files():
            text = file.read_bytes().decode("ascii")
            lines = text.split("\n")
            self.assertLessEqual(len(lines), 401, file.name)
            self.assertRegex(text, r"^[ -~\n]*$", file.name)
            self.assertLessEqual(max(len(line) for line in lines), 120, file.name)
            self.assertIsNone(UNUSED_WORDS.search(text), file.name)

    def test_functions_are_short(self):
        for name, node in nodes(ast.FunctionDef):
            self.assertLessEqual(node.end_lineno - node.lineno + 1, 40, (name, node.name))


class Forms(unittest.TestCase):
    def test_top_of_each_file(self):
        for name, tree in trees():
            self.assertIsNotNone(ast.get_docstring(tree), name)
            for node in tree.body[1:]:
                self.assertIsInstance(node, (ast.Assign, ast.ImportFrom, ast.FunctionDef, ast.ClassDef), name)
                if isinstance(node, ast.Assign):
                    self.assertTrue(is_plain(node.value), (name, node.lineno))

    def test_imports_are_the_packages_own(self):
        for name, node in nodes(ast.ImportFrom):
            self.assertRegex(node.module, r"^shapedots\.[a-z]+$", name)
            for alias in node.names:
                self.assertIsNone(alias.asname, name)

    def test_statements(self):
        for name, node in nodes(ast.stmt):
            self.assertIsInstance(node, STATEMENTS, (name, node.lineno))
            if isinstance(node, ast.Assign):
                self.assertEqual(len(node.targets), 1, (name, node.lineno))
                self.assertNotIsInstance(node.targets[0], (ast.Tuple, ast.List), (name, node.lineno))
            if isinstance(node, (ast.For, ast.While)):
                self.assertEqual(node.orelse, [], (name, node.lineno))
            if isinstance(node, ast.FunctionDef):
                self.assertEqual(node.decorator_list, [], name)
                self.assertIsNone(node.args.vararg or node.args.kwarg, name)

    def test_expressions(self):
        for name, node in nodes(ast.expr):
            self.assertIsInstance(node, EXPRESSIONS, (name, node.lineno))
        for name, node in nodes(ast.Div, ast.Pow, ast.MatMult):
            self.fail(name)
        for name, node in nodes(ast.Is, ast.IsNot):
            self.fail(name)
        for name, node in nodes(ast.Constant):
            self.assertIn(type(node.value), (int, str, bool, type(None)), name)
            if isinstance(node.value, str):
                self.assertNotIn("%", node.value, (name, node.lineno))

    def test_names(self):
        own = {node.name for _, node in nodes(ast.FunctionDef, ast.ClassDef)}
        for name, node in nodes(ast.Name):
            self.assertRegex(node.id, r"^[A-Za-z][A-Za-z0-9_]*$", name)
            self.assertNotIn(node.id, UNUSED_NAMES, name)
            if isinstance(node.ctx, ast.Store):
                self.assertNotIn(node.id, OWN_OF_PYTHON, name)
                self.assertNotIn(node.id, own, name)
        for name, node in nodes(ast.arg):
            self.assertNotIn(node.arg, OWN_OF_PYTHON | UNUSED_NAMES | own, name)

    def test_methods_that_are_called(self):
        own = {node.name for _, node in nodes(ast.FunctionDef)}
        for name, node in nodes(ast.Call):
            if isinstance(node.func, ast.Attribute):
                self.assertIn(node.func.attr, own | METHODS_OF_PYTHON, (name, node.lineno))

    def test_walked_at_once(self):
        walked = {"zip", "enumerate", "reversed", "range"}
        takers = {"list", "tuple", "dict", "sorted", "sum", "any", "all", "enumerate", "zip"}
        for name, tree in trees():
            allowed = [node.iter for node in ast.walk(tree) if isinstance(node, (ast.For, ast.comprehension))]
            for node in ast.walk(tree):
                if isinstance(node, ast.Call) and isinstance(node.func, ast.Name) and node.func.id in takers:
                    allowed.extend(node.args[:1])
            for node in ast.walk(tree):
                if isinstance(node, ast.Call) and isinstance(node.func, ast.Name) and node.func.id in walked:
                    self.assertTrue(any(node is other for other in allowed), (name, node.lineno))

    def test_methods_and_values_of_objects(self):
        inside = [inner for _, node in nodes(ast.ClassDef) for inner in node.body]
        methods = {inner.name for inner in inside if isinstance(inner, ast.FunctionDef)}
        values = {node.attr for _, node in nodes(ast.Attribute) if isinstance(node.ctx, ast.Store)}
        of_python = {name for kind in (str, int, list, dict, set, bytes) for name in dir(kind)}
        self.assertEqual(methods & values, set())
        self.assertEqual((values | methods - {"__init__"}) & of_python, set())

    def test_no_two_files_draw_from_one_another(self):
        drawn = {
            name[:-3]: {node.module.split(".")[1] for node in ast.walk(tree) if isinstance(node, ast.ImportFrom)}
            for name, tree in trees()
        }
        while drawn:
            ready = [name for name in drawn if not drawn[name] & set(drawn)]
            self.assertTrue(ready, drawn)
            drawn = {name: drawn[name] for name in drawn if name not in ready}

    def test_every_name_is_known(self):
        for name, tree in trees():
            stored = {node.id for node in ast.walk(tree) if isinstance(node, ast.Name) and isinstance(node.ctx, ast.Store)}
            stored |= {node.arg for node in ast.walk(tree) if isinstance(node, ast.arg)}
            stored |= {node.name for node in ast.walk(tree) if isinstance(node, (ast.FunctionDef, ast.ClassDef))}
            stored |= {alias.name for node in ast.walk(tree) if isinstance(node, ast.ImportFrom) for alias in node.names}
            for node in ast.walk(tree):
                if isinstance(node, ast.Name) and node.id not in stored:
                    self.assertIn(node.id, OWN_OF_PYTHON, (name, node.lineno))


if __name__ == "__main__":
    unittest.main()
