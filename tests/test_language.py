"""Rules of the language subset that a test can see without much ado."""

import ast
import builtins
import pathlib
import re
import unittest

PACKAGE = pathlib.Path(__file__).resolve().parent.parent / "gaplesskeys"
FILES = sorted(PACKAGE.rglob("*.py"))
LIBRARY = {
    "heapq": {"heappush", "heappop", "heapify", "heapreplace", "heappushpop"},
    "math": {"gcd", "lcm", "isqrt", "comb", "perm", "factorial"},
    "itertools": {"product", "combinations", "permutations"},
}
BUILTINS = set(
    "len range enumerate zip min max sum abs sorted reversed int str bool bytes list tuple dict set"
    " isinstance ord repr any all divmod iter next map super property staticmethod classmethod"
    " Exception ValueError TypeError KeyError IndexError LookupError ZeroDivisionError ArithmeticError"
    " OverflowError RuntimeError NotImplementedError AttributeError StopIteration NotImplemented".split()
)
BARRED = re.compile(
    r"\b(type|typing|enum|Enum|namedtuple|NamedTuple|TypedDict|ABC|Protocol|Generic|Flag)\b"
    r"|dataclass|overload|contextmanager"
)
METHODS = re.compile(
    "__(init|eq|repr|str|len|enter|exit|call|iter|bool|contains|getitem|setitem|neg|pos|invert|abs"
    "|lt|le|gt|ge|ne|[ri]?(add|sub|mul|floordiv|mod|and|or|xor|lshift|rshift))__"
)


def trees():
    for file in FILES:
        yield file.name, ast.parse(file.read_text())


def nodes(kind):
    for name, tree in trees():
        for node in ast.walk(tree):
            if isinstance(node, kind):
                yield name, node


class Language(unittest.TestCase):
    def test_files(self):
        self.assertTrue(FILES)
        for file in FILES:
            text = file.read_bytes()
            self.assertTrue(set(text) <= {10, *range(32, 127)}, file.name)
            rows = text.decode().split("\n")
            self.assertLess(len(rows), 400, file.name)
            self.assertLessEqual(max(len(row) for row in rows), 120, file.name)
            self.assertRegex(file.name, "^[a-z_]+[.]py$")

    def test_functions_are_small(self):
        for name, node in nodes(ast.FunctionDef):
            self.assertLessEqual(node.end_lineno - node.lineno + 1, 40, (name, node.name))
            if node.name.startswith("__"):
                self.assertTrue(METHODS.fullmatch(node.name), (name, node.name))

    def test_imports(self):
        for name, node in nodes((ast.Import, ast.ImportFrom)):
            self.assertIsInstance(node, ast.ImportFrom, name)
            found = {alias.name for alias in node.names}
            own = PACKAGE.parent / (node.module.replace(".", "/") + ".py")
            self.assertTrue(own.is_file() or found <= LIBRARY.get(node.module, set()), (name, node.module))

    def test_builtins(self):
        for name, node in nodes(ast.Name):
            if hasattr(builtins, node.id):
                self.assertIsInstance(node.ctx, ast.Load, (name, node.id))
                self.assertIn(node.id, BUILTINS, (name, node.lineno))

    def test_no_floats_and_no_other_syntax(self):
        for name, node in nodes((ast.Global, ast.AsyncFunctionDef, ast.Await, ast.Div, ast.MatMult)):
            self.fail((name, ast.dump(node)))
        for name, node in nodes(ast.Constant):
            self.assertNotIsInstance(node.value, (float, complex), (name, node.lineno))
            if isinstance(node.value, str):
                self.assertNotIn("%", node.value, (name, node.lineno))

    def test_barred_words(self):
        for name, tree in trees():
            for node in ast.walk(tree):
                if isinstance(node, (ast.Module, ast.ClassDef, ast.FunctionDef)) and ast.get_docstring(node):
                    node.body[0].value.value = ""
            self.assertIsNone(BARRED.search(ast.unparse(tree)), name)

    def test_handlers_name_their_errors(self):
        for name, node in nodes(ast.ExceptHandler):
            self.assertIsNotNone(node.type, (name, node.lineno))
