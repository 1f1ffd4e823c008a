"""The package's files keep to the small part of Python they are written in."""

import ast
import builtins
import functools
import pathlib
import re
import unittest

PACKAGE = pathlib.Path(__file__).resolve().parent.parent / "climbwall"

ALLOWED_BUILTINS = """len range enumerate zip min max sum abs sorted reversed int str bool list tuple dict set frozenset
isinstance ord repr any all divmod Exception ValueError TypeError KeyError IndexError LookupError ZeroDivisionError
ArithmeticError OverflowError RuntimeError NotImplementedError AttributeError StopIteration""".split()

ALLOWED_METHODS = """append clear copy count endswith extend find get index insert isalnum isalpha isdigit islower
isspace isupper items join keys ljust lower lstrip partition pop remove replace reverse rfind rjust rpartition rsplit
rstrip setdefault split splitlines startswith strip update upper values zfill bit_length""".split()

FORBIDDEN_WORDS = """type typing typing_extensions enum Enum IntEnum StrEnum Flag IntFlag Generic Protocol ABC ABCMeta
namedtuple NamedTuple TypedDict TYPE_CHECKING abstractmethod""".split()

FORBIDDEN_PARTS = ["dataclass", "overload", "contextmanager"]

FORBIDDEN_NODES = (
    ast.With, ast.Match, ast.Delete, ast.Global, ast.Nonlocal, ast.Assert, ast.Yield, ast.YieldFrom, ast.Await,
    ast.AsyncFunctionDef, ast.AsyncFor, ast.AsyncWith, ast.SetComp, ast.DictComp, ast.GeneratorExp, ast.NamedExpr,
    ast.Starred, ast.Div, ast.MatMult, ast.Import, ast.AnnAssign,
)


def files():
    return sorted(path for path in PACKAGE.rglob("*") if "__pycache__" not in path.parts and path.is_file())


@functools.cache
def trees():
    return [(path, ast.parse(path.read_text(encoding="utf-8"))) for path in files()]


@functools.cache
def nodes():
    return [(f"{path.name}:{getattr(node, 'lineno', 0)}", node) for path, tree in trees() for node in ast.walk(tree)]


def own_methods():
    return [method.name for _, node in nodes() if isinstance(node, ast.ClassDef)
            for method in node.body if isinstance(method, ast.FunctionDef)]


def bound_names(tree):
    names = [node.id for node in ast.walk(tree) if isinstance(node, ast.Name) and isinstance(node.ctx, ast.Store)]
    names += [node.arg for node in ast.walk(tree) if isinstance(node, ast.arg)]
    return names + [node.name for node in ast.walk(tree) if isinstance(node, (ast.FunctionDef, ast.ClassDef))]


def imported_names(tree):
    return [alias.name for node in ast.walk(tree) if isinstance(node, ast.ImportFrom) for alias in node.names]


class TestFiles(unittest.TestCase):
    def test_plain_file_names(self):
        self.assertTrue(files())
        for path in files():
            self.assertRegex(path.name, r"\A([a-z][a-z0-9_]*|__init__)\.py\Z")
            self.assertNotIn(path.stem, dir(builtins))

    def test_signs_and_sizes(self):
        for path in files():
            text = path.read_text(encoding="utf-8")
            self.assertRegex(text, r"\A[ -~\n]*\Z", path.name)
            self.assertLessEqual(len(text.splitlines()), 400, path.name)
            self.assertLessEqual(max(map(len, text.splitlines())), 120, path.name)

    def test_functions_of_at_most_40_lines(self):
        for where, node in nodes():
            if isinstance(node, ast.FunctionDef):
                self.assertLessEqual(node.end_lineno - node.lineno + 1, 40, where)

    def test_words_that_stand_nowhere(self):
        for path in files():
            text = path.read_text(encoding="utf-8")
            self.assertEqual([word for word in FORBIDDEN_WORDS if re.search(rf"\b{word}\b", text)], [], path.name)
            self.assertEqual([part for part in FORBIDDEN_PARTS if part in text], [], path.name)


class TestStatements(unittest.TestCase):
    def test_nodes(self):
        for where, node in nodes():
            self.assertNotIsInstance(node, FORBIDDEN_NODES, where)
            if isinstance(node, ast.Assign):
                self.assertEqual(len(node.targets), 1, where)
            if isinstance(node, (ast.For, ast.While)):
                self.assertEqual(node.orelse, [], where)
            if isinstance(node, (ast.FunctionDef, ast.ClassDef)):
                self.assertEqual(node.decorator_list, [], where)
            if isinstance(node, ast.Constant):
                self.assertIn(type(node.value), (int, str, bool, type(None)), where)

    def test_imports(self):
        modules = ["climbwall." + path.stem for path in files()]
        for path, tree in trees():
            for node in ast.walk(tree):
                if isinstance(node, ast.ImportFrom):
                    self.assertEqual(node.level, 0, path.name)
                    self.assertIn(node.module, modules, path.name)
                    self.assertIn(node, tree.body, path.name)

    def test_imports_come_from_the_file_that_defines_the_name(self):
        tops = {}
        for path, tree in trees():
            defined = [node.name for node in tree.body if isinstance(node, (ast.FunctionDef, ast.ClassDef))]
            defined += [node.targets[0].id for node in tree.body if isinstance(node, ast.Assign)]
            self.assertEqual(len(set(defined)), len(defined), path.name)
            tops["climbwall." + path.stem] = defined
        for where, node in nodes():
            if isinstance(node, ast.ImportFrom):
                for alias in node.names:
                    self.assertIn(alias.name, tops[node.module], where)
                    self.assertIsNone(alias.asname, where)

    def test_no_files_draw_from_one_another(self):
        draws = {"climbwall." + path.stem: [node.module for node in tree.body if isinstance(node, ast.ImportFrom)]
                 for path, tree in trees()}
        self.assertEqual(draws["climbwall.__init__"], [])
        while draws:
            leaves = [name for name in draws if not set(draws[name]) & set(draws)]
            self.assertTrue(leaves, draws)
            for name in leaves:
                draws.pop(name)


class TestNames(unittest.TestCase):
    def test_names_do_not_begin_with_an_underscore(self):
        for path, tree in trees():
            for name in bound_names(tree):
                self.assertTrue(name == "__init__" or not name.startswith("_"), (path.name, name))

    def test_pythons_own_names(self):
        for path, tree in trees():
            bound = bound_names(tree)
            self.assertEqual([name for name in bound if name in dir(builtins)], [], path.name)
            known = bound + imported_names(tree) + ALLOWED_BUILTINS
            for node in ast.walk(tree):
                if isinstance(node, ast.Name):
                    self.assertIn(node.id, known, path.name)

    def test_no_local_is_called_like_an_import_or_a_class(self):
        for path, tree in trees():
            taken = imported_names(tree) + [node.name for node in tree.body if isinstance(node, ast.ClassDef)]
            stored = [node.id for node in ast.walk(tree) if isinstance(node, ast.Name) and isinstance(node.ctx, ast.Store)]
            stored += [node.arg for node in ast.walk(tree) if isinstance(node, ast.arg)]
            self.assertEqual([name for name in stored if name in taken], [], path.name)

    def test_methods(self):
        known = ALLOWED_METHODS + own_methods()
        for where, node in nodes():
            if isinstance(node, ast.Call) and isinstance(node.func, ast.Attribute):
                self.assertIn(node.func.attr, known, where)

    def test_values_of_objects(self):
        taken = own_methods() + [name for kind in (str, int, list, dict, set, bytes) for name in dir(kind)]
        for where, node in nodes():
            if isinstance(node, ast.Attribute) and isinstance(node.ctx, ast.Store):
                self.assertNotIn(node.attr, taken, where)


if __name__ == "__main__":
    unittest.main()
