"""The package's own files keep to the small part of Python that the program is written in."""

import ast
import builtins
import os
import re
import unittest

PACKAGE = os.path.join(os.path.dirname(os.path.dirname(os.path.abspath(__file__))), "firmframe")

NODES = set("""
    Module FunctionDef ClassDef arguments arg Return Assign AugAssign For While If Raise Try ExceptHandler ImportFrom
    alias Expr Pass Break Continue Load Store BoolOp And Or BinOp Add Sub Mult FloorDiv Mod Pow LShift RShift BitOr
    BitXor BitAnd UnaryOp Invert Not USub UAdd Lambda IfExp Dict Set ListComp comprehension Compare Eq NotEq Lt LtE Gt
    GtE Is IsNot In NotIn Call keyword JoinedStr FormattedValue Constant Attribute Subscript Name List Tuple Slice
""".split())

BUILT_IN = set("""
    len range enumerate zip min max sum abs sorted reversed int str bool list tuple dict set frozenset isinstance ord
    repr any all divmod Exception ValueError TypeError KeyError IndexError LookupError ZeroDivisionError
    ArithmeticError OverflowError RuntimeError NotImplementedError StopIteration
""".split())

METHODS = set("""
    append clear copy count endswith extend find get index insert isalnum isalpha isdigit islower isspace isupper items
    join keys ljust lower lstrip partition pop remove replace reverse rfind rjust rpartition rsplit rstrip setdefault
    split splitlines startswith strip update upper values zfill bit_length
""".split())

WORDS = re.compile(
    r"\b(type|typing|typing_extensions|enum|Enum|IntEnum|StrEnum|Flag|IntFlag|Generic|Protocol|ABC|ABCMeta|namedtuple"
    r"|NamedTuple|TypedDict|TYPE_CHECKING|abstractmethod)\b|dataclass|overload|contextmanager")


WALKERS = ("list", "tuple", "dict", "sorted", "sum", "any", "all", "enumerate", "zip", "min", "max")


def called(node):
    """The name of what is called here, or None."""
    return node.func.id if isinstance(node, ast.Call) and isinstance(node.func, ast.Name) else None


def package_files():
    found = []
    for folder, folders, names in os.walk(PACKAGE):
        folders[:] = [name for name in folders if name != "__pycache__"]
        found += [os.path.join(folder, name) for name in names]
    return sorted(found)


def read(path):
    with open(path, encoding="utf-8", newline="") as handle:
        return handle.read()


def trees():
    return [(path, ast.parse(read(path))) for path in package_files()]


class LanguageTest(unittest.TestCase):

    def test_files(self):
        names = [os.path.relpath(path, PACKAGE) for path in package_files()]
        self.assertIn("__init__.py", names)
        self.assertIn("walls.py", names)
        for name in names:
            self.assertRegex(name, r"^(__init__|[a-z][a-z0-9_]*)\.py$")
            self.assertNotRegex(name, r"^(test|conftest|site|usercustomize)")

    def test_signs_and_sizes(self):
        for path in package_files():
            text = read(path)
            self.assertEqual(re.findall(r"[^ -~\n]", text), [], path)
            self.assertIsNone(WORDS.search(text), path)
            lines = text.split("\n")
            self.assertLessEqual(len(lines), 400, path)
            self.assertLessEqual(max(len(line) for line in lines), 120, path)

    def test_functions_are_short(self):
        for path, tree in trees():
            for node in ast.walk(tree):
                if isinstance(node, ast.FunctionDef):
                    self.assertLessEqual(node.end_lineno - node.lineno + 1, 40, (path, node.name))
                    self.assertEqual(node.decorator_list, [])

    def test_forms(self):
        for path, tree in trees():
            for node in ast.walk(tree):
                self.assertIn(node.__class__.__name__, NODES, (path, getattr(node, "lineno", 0)))
                if isinstance(node, ast.Assign):
                    self.assertEqual(len(node.targets), 1, (path, node.lineno))
                    self.assertNotIsInstance(node.targets[0], (ast.Tuple, ast.List), (path, node.lineno))
                if isinstance(node, ast.ListComp):
                    self.assertEqual(len(node.generators), 1, (path, node.lineno))
                    self.assertLessEqual(len(node.generators[0].ifs), 1, (path, node.lineno))
                if isinstance(node, (ast.For, ast.While)):
                    self.assertEqual(node.orelse, [], (path, node.lineno))
                if isinstance(node, ast.Constant):
                    self.assertIsInstance(node.value, (int, str, type(None)), (path, node.lineno))

    def test_imports_are_the_package_s_own(self):
        for path, tree in trees():
            for node in ast.walk(tree):
                if isinstance(node, ast.ImportFrom):
                    self.assertIn(node, tree.body)
                    self.assertEqual(node.level, 0)
                    self.assertTrue(node.module.startswith("firmframe."), (path, node.module))
                    defined = ast.parse(read(os.path.join(PACKAGE, node.module.split(".")[1] + ".py")))
                    for alias in node.names:
                        self.assertIn(alias.name, top_names(defined), (path, alias.name))
                        self.assertIsNone(alias.asname)

    def test_no_two_files_draw_from_one_another(self):
        drawn = {}
        for path, tree in trees():
            name = os.path.basename(path)[:-3]
            drawn[name] = {n.module.split(".")[1] for n in tree.body if isinstance(n, ast.ImportFrom)}
        settled = set()
        while len(settled) < len(drawn):
            more = {name for name in drawn if drawn[name] <= settled} - settled
            self.assertNotEqual(more, set(), (drawn, settled))
            settled |= more

    def test_is_stands_beside_none_true_and_false(self):
        for path, tree in trees():
            for node in ast.walk(tree):
                if isinstance(node, ast.Compare) and isinstance(node.ops[0], (ast.Is, ast.IsNot)):
                    self.assertIsInstance(node.comparators[0], ast.Constant, (path, node.lineno))
                    self.assertIn(node.comparators[0].value, (None, True, False), (path, node.lineno))

    def test_walked_at_once(self):
        for path, tree in trees():
            walked = []
            for node in ast.walk(tree):
                if isinstance(node, (ast.For, ast.comprehension)):
                    walked.append(node.iter)
                if called(node) in WALKERS:
                    walked += node.args[:1]
            for node in ast.walk(tree):
                if called(node) in ("zip", "enumerate", "reversed", "range"):
                    self.assertIn(node, walked, (path, node.lineno))

    def test_no_keyword_but_those_allowed(self):
        for path, tree in trees():
            for node in ast.walk(tree):
                if isinstance(node, ast.keyword):
                    self.assertIn(node.arg, ("key", "reverse", "default", "start", "strict"), path)

    def test_names(self):
        for path, tree in trees():
            imported = {a.name for n in tree.body if isinstance(n, ast.ImportFrom) for a in n.names}
            top = top_names(tree)
            self.assertEqual(len(top), len(set(top)), path)
            self.assertEqual(set(top) & imported, set(), path)
            for node in ast.walk(tree):
                if isinstance(node, ast.FunctionDef):
                    local = local_names(node)
                    self.assertEqual(local & (imported | set(dir(builtins)) | set(top)), set(), path)
                    for name in read_names(node) - local - imported - set(top):
                        self.assertIn(name, BUILT_IN, (path, node.name))
                if isinstance(node, ast.Name):
                    self.assertRegex(node.id, r"^[A-Za-z][A-Za-z0-9_]*$")
                if isinstance(node, ast.Call) and isinstance(node.func, ast.Attribute):
                    self.assertIn(node.func.attr, METHODS, (path, node.lineno))


def top_names(tree):
    names = []
    for node in tree.body:
        if isinstance(node, (ast.FunctionDef, ast.ClassDef)):
            names.append(node.name)
        elif isinstance(node, ast.Assign):
            names.append(node.targets[0].id)
    return names


def local_names(function):
    names = {argument.arg for argument in function.args.args}
    return names | {n.id for n in ast.walk(function) if isinstance(n, ast.Name) and isinstance(n.ctx, ast.Store)}


def read_names(function):
    return {n.id for n in ast.walk(function) if isinstance(n, ast.Name) and isinstance(n.ctx, ast.Load)}


if __name__ == "__main__":
    unittest.main()
