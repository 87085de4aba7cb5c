"""The package keeps to its part of Python: what can be seen of the rules L1 to L28 without running it."""

import ast
import builtins
import keyword
import pathlib
import re
import unittest

PACKAGE = "shortrowsdesk"
FOLDER = pathlib.Path(__file__).resolve().parent.parent / PACKAGE

NODES = """
    Module FunctionDef ClassDef arguments arg Return Assign AugAssign For While If Break Continue Pass Raise Try
    ExceptHandler Expr ImportFrom alias Name Load Store Attribute Subscript Slice Constant List Tuple Dict Call keyword
    BinOp UnaryOp BoolOp Compare IfExp ListComp comprehension Lambda JoinedStr FormattedValue And Or Not USub Add Sub
    Mult FloorDiv Mod Pow BitAnd BitOr BitXor Invert LShift RShift Eq NotEq Lt LtE Gt GtE Is IsNot In NotIn
""".split()

BUILT_IN = """
    len range enumerate zip min max sum abs sorted reversed int str bool list tuple dict set frozenset isinstance ord
    repr any all divmod Exception ValueError TypeError KeyError IndexError LookupError ZeroDivisionError
    ArithmeticError OverflowError RuntimeError NotImplementedError AttributeError StopIteration
""".split()

METHODS = """
    append clear copy count endswith extend find get index insert isalnum isalpha isdigit islower isspace isupper items
    join keys ljust lower lstrip partition pop remove replace reverse rfind rjust rpartition rsplit rstrip setdefault
    split splitlines startswith strip update upper values zfill bit_length
""".split()

NOT_AS_VALUES = """
    items keys values pop update append clear extend insert remove reverse setdefault sort args encode format mro
    register elements open input version_info with_traceback add_note format_map
""".split()

NO_WORDS = """
    type typing typing_extensions enum Enum IntEnum StrEnum Flag IntFlag Generic Protocol ABC ABCMeta namedtuple
    NamedTuple TypedDict TYPE_CHECKING abstractmethod
""".split()


def files():
    return sorted(path for path in FOLDER.rglob("*") if path.is_file() and "__pycache__" not in path.parts)


def trees():
    return {path: ast.parse(path.read_text()) for path in files()}


def own_methods():
    found = []
    for tree in trees().values():
        for node in ast.walk(tree):
            if isinstance(node, ast.ClassDef):
                found.extend(part.name for part in node.body if isinstance(part, ast.FunctionDef))
    return found


def bound_names(tree):
    for node in ast.walk(tree):
        if isinstance(node, (ast.FunctionDef, ast.ClassDef)):
            yield node.name
        elif isinstance(node, ast.arg):
            yield node.arg
        elif isinstance(node, ast.Name) and isinstance(node.ctx, ast.Store):
            yield node.id
        elif isinstance(node, ast.Attribute) and isinstance(node.ctx, ast.Store):
            yield node.attr


def local_names(tree):
    for node in ast.walk(tree):
        if isinstance(node, ast.FunctionDef):
            for part in ast.walk(node):
                if isinstance(part, ast.arg):
                    yield part.arg
                elif isinstance(part, ast.Name) and isinstance(part.ctx, ast.Store):
                    yield part.id


def defined_at_top(tree):
    for node in tree.body:
        if isinstance(node, (ast.FunctionDef, ast.ClassDef)):
            yield node.name
        elif isinstance(node, ast.Assign):
            yield node.targets[0].id


class Texts(unittest.TestCase):
    def test_files(self):
        names = [path.name for path in files()]
        self.assertIn("__init__.py", names)
        for path in files():
            self.assertEqual(path.parent, FOLDER)
            if path.name != "__init__.py":
                self.assertRegex(path.name, r"\A[a-z][a-z0-9_]*\.py\Z")
                self.assertNotIn(path.stem, dir(builtins))
                self.assertFalse(path.stem.startswith(("test", "site", "conftest", "usercustomize")))

    def test_signs_and_sizes(self):
        for path in files():
            text = path.read_text()
            self.assertRegex(text, r"\A[ -~\n]*\Z", path.name)
            lines = text.splitlines()
            self.assertLessEqual(len(lines), 400, path.name)
            for line in lines:
                self.assertLessEqual(len(line), 120, line)

    def test_words_that_stand_nowhere(self):
        for path in files():
            text = path.read_text()
            for word in NO_WORDS:
                self.assertIsNone(re.search(rf"\b{word}\b", text), (path.name, word))
            for word in ("dataclass", "overload", "contextmanager"):
                self.assertNotIn(word, text)


class Forms(unittest.TestCase):
    def test_nodes(self):
        for path, tree in trees().items():
            for node in ast.walk(tree):
                self.assertIn(type(node).__name__, NODES, (path.name, getattr(node, "lineno", 0)))

    def test_functions(self):
        for path, tree in trees().items():
            for node in ast.walk(tree):
                if isinstance(node, ast.FunctionDef):
                    self.assertLessEqual(node.end_lineno - node.lineno + 1, 40, node.name)
                    self.assertEqual(node.decorator_list, [], node.name)
                    self.assertIsNone(node.args.vararg or node.args.kwarg, node.name)
                    self.assertEqual(node.args.kwonlyargs + node.args.posonlyargs, [], node.name)

    def test_statements(self):
        for path, tree in trees().items():
            for node in ast.walk(tree):
                where = (path.name, getattr(node, "lineno", 0))
                if isinstance(node, ast.Assign):
                    self.assertEqual(len(node.targets), 1, where)
                    self.assertNotIsInstance(node.targets[0], ast.Tuple, where)
                if isinstance(node, (ast.For, ast.While)):
                    self.assertEqual(node.orelse, [], where)
                if isinstance(node, ast.Expr) and node is not tree.body[0]:
                    self.assertIsInstance(node.value, ast.Call, where)
                if isinstance(node, ast.ListComp):
                    self.assertEqual(len(node.generators), 1, where)
                    self.assertLessEqual(len(node.generators[0].ifs), 1, where)

    def test_values(self):
        for path, tree in trees().items():
            for node in ast.walk(tree):
                where = (path.name, getattr(node, "lineno", 0))
                if isinstance(node, ast.Constant):
                    self.assertIsInstance(node.value, (int, str, bool, type(None)), where)
                if isinstance(node, ast.BinOp) and isinstance(node.op, ast.Pow):
                    self.assertIsInstance(node.right, ast.Constant, where)
                if isinstance(node, ast.Compare) and isinstance(node.ops[0], (ast.Is, ast.IsNot)):
                    self.assertIsInstance(node.comparators[0], ast.Constant, where)


class Names(unittest.TestCase):
    def test_bound(self):
        for path, tree in trees().items():
            for name in bound_names(tree):
                if name != "__init__":
                    self.assertRegex(name, r"\A[A-Za-z][A-Za-z0-9_]*\Z", path.name)
                self.assertFalse(keyword.issoftkeyword(name), (path.name, name))

    def test_locals_are_no_names_of_others(self):
        for path, tree in trees().items():
            classes = [node.name for node in tree.body if isinstance(node, ast.ClassDef)]
            drawn = [part.name for node in tree.body if isinstance(node, ast.ImportFrom) for part in node.names]
            for name in local_names(tree):
                self.assertNotIn(name, dir(builtins), path.name)
                self.assertNotIn(name, classes + drawn, path.name)

    def test_top_names_are_bound_once(self):
        for path, tree in trees().items():
            names = list(defined_at_top(tree))
            drawn = [part.name for node in tree.body if isinstance(node, ast.ImportFrom) for part in node.names]
            self.assertEqual(len(names + drawn), len(set(names + drawn)), path.name)
            for name in names:
                self.assertNotIn(name, dir(builtins), path.name)

    def test_lists_and_dicts_of_the_top_are_only_read(self):
        for path, tree in trees().items():
            kept = {}
            for node in tree.body:
                if isinstance(node, ast.Assign) and isinstance(node.value, (ast.List, ast.Dict)):
                    kept[node.targets[0].id] = True
                    for part in ast.walk(node.value):
                        self.assertTrue(part is node.value or not isinstance(part, (ast.List, ast.Dict)), path.name)
            read = {}
            for node in ast.walk(tree):
                if isinstance(node, (ast.Subscript, ast.Attribute)) and isinstance(node.ctx, ast.Load):
                    if isinstance(node, ast.Subscript) or node.attr == "get":
                        read[node.value] = True
            for node in ast.walk(tree):
                if isinstance(node, ast.Name) and isinstance(node.ctx, ast.Load) and node.id in kept:
                    self.assertIn(node, read, (path.name, node.lineno))

    def test_read(self):
        for path, tree in trees().items():
            known = list(bound_names(tree)) + BUILT_IN
            known += [part.name for node in tree.body if isinstance(node, ast.ImportFrom) for part in node.names]
            for node in ast.walk(tree):
                if isinstance(node, ast.Name):
                    self.assertIn(node.id, known, (path.name, node.lineno))

    def test_methods(self):
        methods = own_methods()
        for path, tree in trees().items():
            for node in ast.walk(tree):
                if isinstance(node, ast.Call) and isinstance(node.func, ast.Attribute):
                    self.assertIn(node.func.attr, METHODS + methods, (path.name, node.lineno))
                if isinstance(node, ast.Attribute) and isinstance(node.ctx, ast.Store):
                    self.assertNotIn(node.attr, NOT_AS_VALUES + methods, (path.name, node.lineno))

    def test_imports(self):
        known = {f"{PACKAGE}.{path.stem}": list(defined_at_top(tree)) for path, tree in trees().items()}
        draws = {}
        for path, tree in trees().items():
            rows = [node for node in ast.walk(tree) if isinstance(node, ast.ImportFrom)]
            draws[f"{PACKAGE}.{path.stem}"] = [node.module for node in rows]
            for node in rows:
                self.assertIn(node, tree.body)
                self.assertEqual(node.level, 0)
                for part in node.names:
                    self.assertIsNone(part.asname)
                    self.assertIn(part.name, known[node.module], path.name)
        self.assertEqual(draws[f"{PACKAGE}.__init__"], [])
        while draws:
            free = [name for name in draws if not any(other in draws for other in draws[name])]
            self.assertNotEqual(free, [], "files draw from one another")
            draws = {name: others for name, others in draws.items() if name not in free}


if __name__ == "__main__":
    unittest.main()
