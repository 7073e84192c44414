"""Rules of the language subset that a test can see without much ado."""

import ast
import builtins
import pathlib
import re
import unittest

PACKAGE = pathlib.Path(__file__).resolve().parent.parent / "gaplesskeys"
FILES = sorted(PACKAGE.rglob("*.py"))
LIBRARY = {
    "heapq": {"heappush", "heappop", "heapify", "heapreplace", "heappushpop"},
    "math": {"gcd", "lcm", "isqrt", "comb", "perm", "factorial"},
    "itertools": {"product", "combinations", "permutations"},
}
BUILTINS = set(
    "len range enumerate zip min max sum abs sorted reversed int str bool bytes list tuple dict set"
    " isinstance ord repr any all divmod iter next map super property staticmethod classmethod"
    " Exception ValueError TypeError KeyError IndexError LookupError ZeroDivisionError ArithmeticError"
    " OverflowError RuntimeError NotImplementedError AttributeError StopIteration NotImplemented".split()
)
BARRED = re.compile(
    r"\b(type|typing|enum|Enum|namedtuple|NamedTuple|TypedDict|ABC|Protocol|Generic|Flag|Meta)\b"
    r"|dataclass|overload|contextmanager|metaclass=|_wall|_WallAttr"
)
METHODS = re.compile(
    "__(init|eq|repr|str|len|enter|exit|call|iter|bool|contains|getitem|setitem|neg|pos|invert|abs"
    "|lt|le|gt|ge|ne|[ri]?(add|sub|mul|floordiv|mod|and|or|xor|lshift|rshift))__"
)
# The methods of builtin values that L25 allows and that change nothing outside of
# what they are called on, with those that this package needs of the others.
VALUE_METHODS = set(
    "append clear copy count endswith extend find get index insert isalnum isalpha isdigit islower isspace"
    " isupper items join keys ljust lower lstrip partition pop remove replace reverse rfind rjust rpartition"
    " rsplit rstrip setdefault split splitlines startswith strip update upper values zfill bit_length"
    " isascii removeprefix removesuffix".split()
)
BARRED_NAMES = set(
    "attrgetter breakpoint builtins compile copyright credits delattr dir eval exec exit gc getattr globals"
    " hasattr help id importlib license locals methodcaller os quit setattr super type vars sys register mro"
    " elements open input law version_info with_traceback add_note".split()
)


def trees():
    for file in FILES:
        yield file.name, ast.parse(file.read_text())


def nodes(kind):
    for name, tree in trees():
        for node in ast.walk(tree):
            if isinstance(node, kind):
                yield name, node


def bound_names(tree):
    """The names of parameters and of variables within functions, with the node of each."""
    for function in ast.walk(tree):
        if isinstance(function, ast.FunctionDef):
            for node in ast.walk(function):
                if isinstance(node, ast.arg):
                    yield node.arg, node
                elif isinstance(node, ast.Name) and isinstance(node.ctx, ast.Store):
                    yield node.id, node


def own_modules(tree):
    """The own modules that a file imports from."""
    return [node.module.split(".")[1] for node in tree.body
            if isinstance(node, ast.ImportFrom) and node.module.startswith("gaplesskeys.")]


def is_plain(node):
    """Whether it shows that a value is a number or a string, or a list or a set of such."""
    if isinstance(node, ast.Call) and isinstance(node.func, ast.Name):
        return node.func.id in ["len", "int", "ord", "str", "set", "range"]
    if isinstance(node, ast.ListComp):
        return is_plain(node.elt)
    if isinstance(node, ast.BinOp):
        return is_plain(node.left) and is_plain(node.right)
    if isinstance(node, ast.Constant):
        return isinstance(node.value, (int, str))
    return False


class Files(unittest.TestCase):
    def test_files(self):
        self.assertTrue(FILES)
        for file in FILES:
            text = file.read_bytes()
            self.assertTrue(set(text) <= {10, *range(32, 127)}, file.name)
            rows = text.decode().split("\n")
            self.assertLess(len(rows), 400, file.name)
            self.assertLessEqual(max(len(row) for row in rows), 120, file.name)
            self.assertRegex(file.name, "^[a-z_]+[.]py$")
        self.assertLessEqual(len(FILES), 100)

    def test_functions_are_small(self):
        for name, node in nodes(ast.FunctionDef):
            self.assertLessEqual(node.end_lineno - node.lineno + 1, 40, (name, node.name))
            if node.name.startswith("__"):
                self.assertTrue(METHODS.fullmatch(node.name), (name, node.name))

    def test_imports(self):
        for name, node in nodes((ast.Import, ast.ImportFrom)):
            self.assertIsInstance(node, ast.ImportFrom, name)
            found = {alias.name for alias in node.names}
            own = PACKAGE.parent / (node.module.replace(".", "/") + ".py")
            self.assertTrue(own.is_file() or found <= LIBRARY.get(node.module, set()), (name, node.module))

    def test_imports_name_the_file_that_defines(self):
        defined = {}
        for name, tree in trees():
            targets = [target.id for node in tree.body if isinstance(node, ast.Assign) for target in node.targets]
            found = [node.name for node in tree.body if isinstance(node, (ast.FunctionDef, ast.ClassDef))]
            defined[name] = {*targets, *found}
        for name, node in nodes(ast.ImportFrom):
            if node.module.startswith("gaplesskeys."):
                file = node.module.split(".")[1] + ".py"
                self.assertTrue({alias.name for alias in node.names} <= defined[file], (name, file))

    def test_no_two_files_import_from_each_other(self):
        imports = {name[:-3]: own_modules(tree) for name, tree in trees()}
        for name in imports:
            seen, left = set(), list(imports[name])
            while left:
                other = left.pop()
                self.assertNotEqual(other, name)
                if other not in seen:
                    seen.add(other)
                    left += imports[other]

    def test_all_that_is_imported_is_used(self):
        for name, tree in trees():
            read = {node.id for node in ast.walk(tree) if isinstance(node, ast.Name)}
            for node in tree.body:
                if isinstance(node, ast.ImportFrom):
                    for alias in node.names:
                        self.assertIn(alias.name, read, name)


class Names(unittest.TestCase):
    def test_builtins(self):
        for name, node in nodes(ast.Name):
            if hasattr(builtins, node.id):
                self.assertIsInstance(node.ctx, ast.Load, (name, node.id))
                self.assertIn(node.id, BUILTINS, (name, node.lineno))

    def test_variables_have_names_of_their_own(self):
        for name, tree in trees():
            taken = {alias.name for node in tree.body if isinstance(node, ast.ImportFrom) for alias in node.names}
            taken |= {node.name for node in tree.body if isinstance(node, (ast.FunctionDef, ast.ClassDef))}
            for bound, node in bound_names(tree):
                self.assertNotIn(bound, taken, (name, node.lineno))
                self.assertFalse(hasattr(builtins, bound), (name, node.lineno, bound))
                self.assertNotIn(bound, BARRED_NAMES, (name, node.lineno))

    def test_barred_words(self):
        for name, tree in trees():
            for node in ast.walk(tree):
                if isinstance(node, (ast.Module, ast.ClassDef, ast.FunctionDef)) and ast.get_docstring(node):
                    node.body[0].value.value = ""
            self.assertIsNone(BARRED.search(ast.unparse(tree)), name)

    def test_properties_are_no_methods(self):
        properties, methods = set(), set()
        for _, node in nodes(ast.ClassDef):
            for row in node.body:
                if isinstance(row, ast.FunctionDef):
                    names = [ast.unparse(decorator) for decorator in row.decorator_list]
                    is_property = any(text == "property" or text.endswith(".setter") for text in names)
                    (properties if is_property else methods).add(row.name)
        self.assertEqual(properties & methods, set())
        self.assertEqual(properties & (VALUE_METHODS | {"title", "sort", "format"}), set())

    def test_attributes_are_no_methods(self):
        methods = {row.name for _, node in nodes(ast.ClassDef) for row in node.body if isinstance(row, ast.FunctionDef)
                   if not row.decorator_list}
        for name, node in nodes(ast.Attribute):
            if isinstance(node.ctx, ast.Store):
                self.assertNotIn(node.attr, methods, (name, node.lineno))
                self.assertNotIn(node.attr, VALUE_METHODS, (name, node.lineno))


class Statements(unittest.TestCase):
    def test_no_floats_and_no_other_syntax(self):
        for name, node in nodes((ast.Global, ast.AsyncFunctionDef, ast.Await, ast.Div, ast.MatMult)):
            self.fail((name, ast.dump(node)))
        for name, node in nodes(ast.Constant):
            self.assertNotIsInstance(node.value, (float, complex), (name, node.lineno))
            if isinstance(node.value, str):
                self.assertNotIn("%", node.value, (name, node.lineno))

    def test_handlers_name_their_errors(self):
        own = {node.name for name, node in nodes(ast.ClassDef) if name == "errors.py"}
        for name, node in nodes(ast.ExceptHandler):
            self.assertIsNotNone(node.type, (name, node.lineno))
            for caught in node.type.elts if isinstance(node.type, ast.Tuple) else [node.type]:
                self.assertIn(caught.id, own, (name, node.lineno))

    def test_what_is_raised_is_made_on_the_spot(self):
        for name, node in nodes(ast.Raise):
            self.assertIsInstance(node.exc, ast.Call, (name, node.lineno))
            self.assertIsInstance(node.exc.func, ast.Name, (name, node.lineno))

    def test_identity_with_constants_only(self):
        for name, node in nodes(ast.Compare):
            for operator, right in zip(node.ops, node.comparators):
                if isinstance(operator, (ast.Is, ast.IsNot)):
                    self.assertIn(ast.unparse(right), ["None", "True", "False"], (name, node.lineno))

    def test_sets_stand_where_they_may(self):
        for name, tree in trees():
            allowed = set()
            for node in ast.walk(tree):
                if isinstance(node, ast.Call) and isinstance(node.func, ast.Name) and node.func.id in ["sorted", "len"]:
                    allowed |= {id(argument) for argument in node.args}
            for node in ast.walk(tree):
                is_set = isinstance(node, ast.Call) and isinstance(node.func, ast.Name) and node.func.id == "set"
                if is_set or isinstance(node, ast.SetComp):
                    self.assertIn(id(node), allowed, (name, node.lineno))

    def test_what_is_ordered_is_plain(self):
        # Ranges have an order of their own, so that L5 limits what is sorted.
        for name, node in nodes(ast.Call):
            if isinstance(node.func, ast.Name) and node.func.id in ["sorted", "min", "max"]:
                self.assertTrue(any(is_plain(argument) for argument in node.args), (name, node.lineno))

    def test_generator_expressions_stand_where_they_may(self):
        # Classes with an equality of their own are about, so L7 wants lists in any and the like.
        for name, node in nodes(ast.Call):
            if isinstance(node.func, ast.Name) and node.func.id in ["any", "all", "min", "max", "sum", "sorted"]:
                for argument in node.args:
                    self.assertNotIsInstance(argument, ast.GeneratorExp, (name, node.lineno))

    def test_methods_that_are_called(self):
        own = {node.name for _, node in nodes(ast.FunctionDef)}
        for name, node in nodes(ast.Call):
            if isinstance(node.func, ast.Attribute):
                self.assertIn(node.func.attr, VALUE_METHODS | own, (name, node.lineno))

    def test_views_are_iterated_at_once(self):
        for name, tree in trees():
            allowed = set()
            for node in ast.walk(tree):
                if isinstance(node, (ast.For, ast.comprehension)):
                    allowed.add(id(node.iter))
            for node in ast.walk(tree):
                text = ast.unparse(node) if isinstance(node, ast.Call) else ""
                if text.startswith(("zip(", "enumerate(")) or re.search(r"[.](items|keys|values)\(\)$", text):
                    self.assertIn(id(node), allowed, (name, node.lineno))
