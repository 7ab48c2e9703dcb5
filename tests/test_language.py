"""The package keeps to its part of Python, so far as a walk through its syntax shows it."""

import ast
import builtins
import re
import unittest
from pathlib import Path

PACKAGE = Path(__file__).resolve().parent.parent / "windcourses"
ALLOWED_NAMES = set(
    "len range enumerate zip min max sum abs sorted reversed int str bool list tuple dict set frozenset isinstance "
    "ord repr any all divmod Exception ValueError TypeError KeyError IndexError LookupError ZeroDivisionError "
    "ArithmeticError OverflowError RuntimeError NotImplementedError AttributeError StopIteration".split())
ALLOWED_METHODS = set(
    "append clear copy count endswith extend find get index insert isalnum isalpha isdigit islower isspace isupper "
    "items join keys ljust lower lstrip partition pop remove replace reverse rfind rjust rpartition rsplit rstrip "
    "setdefault split splitlines startswith strip update upper values zfill bit_length".split())
BARRED_NODES = (
    ast.With, ast.Match, ast.Delete, ast.Global, ast.Nonlocal, ast.Assert, ast.Yield, ast.YieldFrom, ast.Await,
    ast.AsyncFunctionDef, ast.AsyncFor, ast.AsyncWith, ast.SetComp, ast.DictComp, ast.GeneratorExp, ast.NamedExpr,
    ast.Starred, ast.Import, ast.AnnAssign, ast.Set, ast.Div, ast.MatMult)
BARRED_WORDS = re.compile(
    r"\b(type|typing|typing_extensions|enum|Enum|IntEnum|StrEnum|Flag|IntFlag|Generic|Protocol|ABC|ABCMeta|namedtuple|"
    r"NamedTuple|TypedDict|TYPE_CHECKING|abstractmethod)\b|dataclass|overload|contextmanager")
BARRED_NAMES = set("register mro elements open input version_info with_traceback add_note chr print sys os".split())
OWN_ATTRIBUTES = set(dir(str) + dir(int) + dir(list) + dir(dict) + dir(set) + dir(bytes) + dir(tuple))


def files():
    return sorted(PACKAGE.glob("*.py"))


def trees():
    return [(path, ast.parse(path.read_text())) for path in files()]


def nodes(kind):
    return [(path, node) for path, tree in trees() for node in ast.walk(tree) if isinstance(node, kind)]


def functions():
    return nodes(ast.FunctionDef)


def bound_names(tree):
    """The names bound in the tree: parameters, targets, defs, classes, imports."""
    found = []
    for node in ast.walk(tree):
        if isinstance(node, ast.arg):
            found.append(node.arg)
        elif isinstance(node, ast.Name) and isinstance(node.ctx, ast.Store):
            found.append(node.id)
        elif isinstance(node, (ast.FunctionDef, ast.ClassDef)):
            found.append(node.name)
        elif isinstance(node, ast.ImportFrom):
            found += [alias.name for alias in node.names]
    return found


class Files(unittest.TestCase):
    def test_only_plain_files(self):
        for path in PACKAGE.iterdir():
            if path.name != "__pycache__":
                self.assertRegex(path.name, r"^(__init__|[a-z][a-z0-9_]*)\.py$")
                self.assertNotIn(path.stem, dir(builtins))

    def test_sizes_and_signs(self):
        for path in files():
            rows = path.read_text().split("\n")
            self.assertLessEqual(len(rows), 400)
            for row in rows:
                self.assertLessEqual(len(row), 120)
                self.assertRegex(row, r"^[ -~]*$")
                self.assertIsNone(BARRED_WORDS.search(row), row)
        for path, node in functions():
            self.assertLessEqual(node.end_lineno - node.lineno + 1, 40, node.name)


class Statements(unittest.TestCase):
    def test_nothing_barred(self):
        for path, node in nodes(BARRED_NODES):
            self.fail(f"{path.name}:{node.lineno} {node}")

    def test_tops_of_modules(self):
        kinds = (ast.ImportFrom, ast.FunctionDef, ast.ClassDef, ast.Assign)
        for path, tree in trees():
            self.assertIsNotNone(ast.get_docstring(tree))
            for node in tree.body[1:]:
                self.assertIsInstance(node, kinds)
            names = [name for node in tree.body if isinstance(node, ast.ClassDef) for name in node.body]
            for node in names:
                self.assertIsInstance(node, ast.FunctionDef)

    def test_plain_assignments_and_loops(self):
        for path, node in nodes(ast.Assign):
            self.assertEqual(len(node.targets), 1)
            self.assertNotIsInstance(node.targets[0], (ast.Tuple, ast.List))
        for path, node in nodes((ast.For, ast.While)):
            self.assertEqual(node.orelse, [])
        for path, node in nodes(ast.Expr):
            self.assertIsInstance(node.value, (ast.Call, ast.Constant))

    def test_plain_functions(self):
        for path, node in functions():
            given = node.args
            self.assertEqual((given.vararg, given.kwarg, given.kwonlyargs, given.posonlyargs), (None, None, [], []))
            self.assertEqual((node.decorator_list, node.returns), ([], None))

    def test_values(self):
        for path, node in nodes(ast.Constant):
            self.assertIn(type(node.value), (int, str, bool, type(None)))
            if isinstance(node.value, str):
                self.assertNotIn("%", node.value)
        for path, node in nodes(ast.Compare):
            for operator, side in zip(node.ops, node.comparators):
                if isinstance(operator, (ast.Is, ast.IsNot)):
                    self.assertIsInstance(side, ast.Constant)
        for path, node in nodes(ast.BinOp):
            if isinstance(node.op, ast.Pow):
                self.assertIsInstance(node.right, ast.Constant)
        for path, node in nodes(ast.ListComp):
            self.assertEqual(len(node.generators), 1)
            self.assertLessEqual(len(node.generators[0].ifs), 1)
        for path, node in nodes(ast.FormattedValue):
            self.assertIsInstance(node.value, ast.Name)


class Names(unittest.TestCase):
    def test_every_name_is_bound_or_allowed(self):
        for path, tree in trees():
            bound = set(bound_names(tree))
            for node in ast.walk(tree):
                if isinstance(node, ast.Name):
                    self.assertIn(node.id, bound | ALLOWED_NAMES, path.name)
                    self.assertNotIn(node.id, BARRED_NAMES)

    def test_plain_names_that_mean_one_thing(self):
        for path, tree in trees():
            for name in bound_names(tree):
                self.assertNotIn(name, dir(builtins))
                if name != "__init__":
                    self.assertRegex(name, r"^[A-Za-z][A-Za-z0-9_]*$")
            top = [name for node in tree.body for name in self.bound_at_top(node)]
            self.assertEqual(len(top), len(set(top)), path.name)
            for node in ast.walk(tree):
                if isinstance(node, ast.FunctionDef):
                    self.assertEqual(set(bound_names(node)[1:]) & set(top), set(), node.name)

    def bound_at_top(self, node):
        if isinstance(node, (ast.FunctionDef, ast.ClassDef)):
            return [node.name]
        return bound_names(node)

    def test_methods_and_values(self):
        called = [(path, node.func) for path, node in nodes(ast.Call) if isinstance(node.func, ast.Attribute)]
        for path, node in called:
            self.assertIn(node.attr, ALLOWED_METHODS)
        for path, node in nodes(ast.Attribute):
            if node not in [method for place, method in called if place == path]:
                self.assertFalse(node.attr.startswith("_"))
                if isinstance(node.ctx, ast.Store):
                    self.assertNotIn(node.attr, OWN_ATTRIBUTES)

    def test_imports_come_from_the_file_that_defines_and_never_in_a_ring(self):
        drawn = {}
        tops = {path.stem: [name for node in tree.body if not isinstance(node, ast.ImportFrom)
                            for name in self.bound_at_top(node)] for path, tree in trees()}
        for path, tree in trees():
            drawn[path.stem] = []
            for node in ast.walk(tree):
                if isinstance(node, ast.ImportFrom):
                    self.assertIn(node, tree.body)
                    package, stem = node.module.split(".")
                    self.assertEqual((package, node.level), ("windcourses", 0))
                    drawn[path.stem].append(stem)
                    for alias in node.names:
                        self.assertIsNone(alias.asname)
                        self.assertIn(alias.name, tops[stem])
        while drawn:
            free = [stem for stem, others in drawn.items() if not set(others) & set(drawn)]
            self.assertNotEqual(free, [], "files draw from one another")
            drawn = {stem: others for stem, others in drawn.items() if stem not in free}


if __name__ == "__main__":
    unittest.main()
