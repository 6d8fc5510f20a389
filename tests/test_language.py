"""The package's files keep to the part of Python that they are held to (the rules' numbers stand in brackets)."""

import ast
import builtins
import pathlib
import re
import unittest

PACKAGE = pathlib.Path(__file__).resolve().parent.parent / "bitsignals"
FILES = sorted(path for path in PACKAGE.rglob("*") if "__pycache__" not in path.parts)

NODES = (
    "Module FunctionDef arguments arg Lambda ClassDef ImportFrom alias Assign AugAssign If While For Return Break "
    "Continue Pass Raise Try ExceptHandler Expr Constant Name Load Store List Tuple Dict BinOp UnaryOp BoolOp Compare "
    "IfExp Call keyword Attribute Subscript Slice ListComp comprehension JoinedStr FormattedValue Set "
    "Add Sub Mult FloorDiv Mod Pow LShift RShift BitOr BitXor BitAnd Invert Not UAdd USub And Or "
    "Eq NotEq Lt LtE Gt GtE Is IsNot In NotIn"
).split()

OWN_NAMES = (
    "len range enumerate zip min max sum abs sorted reversed int str bool list tuple dict set frozenset isinstance "
    "ord repr any all divmod Exception ValueError TypeError KeyError IndexError LookupError ZeroDivisionError "
    "ArithmeticError OverflowError RuntimeError NotImplementedError AttributeError StopIteration"
).split()

METHODS = (
    "append clear copy count endswith extend find get index insert isalnum isalpha isdigit islower isspace isupper "
    "items join keys ljust lower lstrip partition pop remove replace reverse rfind rjust rpartition rsplit rstrip "
    "setdefault split splitlines startswith strip update upper values zfill bit_length"
).split()

# Names that Python's own values have: a class of the package's own calls nothing like them.
TAKEN = {name for kind in (str, int, list, dict, set, bytes, tuple) for name in dir(kind) if name[0] != "_"}

WORDS = (
    r"\b(type|typing|typing_extensions|enum|Enum|IntEnum|StrEnum|Flag|IntFlag|Generic|Protocol|ABC|ABCMeta|namedtuple"
    r"|NamedTuple|TypedDict|TYPE_CHECKING|abstractmethod|register|mro|elements|open|input|version_info)\b"
    r"|dataclass|overload|contextmanager"
)


def bound_at_top(tree):
    for node in tree.body:
        if isinstance(node, (ast.FunctionDef, ast.ClassDef)):
            yield node.name
        elif isinstance(node, ast.ImportFrom):
            yield from (name.asname or name.name for name in node.names)
        elif isinstance(node, ast.Assign):
            yield from (target.id for target in node.targets)


def stored(tree):
    """Parameters and locals, and what stands at the top."""
    yield from (node.arg for node in ast.walk(tree) if isinstance(node, ast.arg))
    yield from (node.id for node in ast.walk(tree) if isinstance(node, ast.Name) and isinstance(node.ctx, ast.Store))
    yield from (node.name for node in ast.walk(tree) if isinstance(node, (ast.FunctionDef, ast.ClassDef)))


def is_text(node):
    return isinstance(node, ast.Expr) and isinstance(node.value, ast.Constant)


def own_methods(tree):
    for node in ast.walk(tree):
        if isinstance(node, ast.ClassDef):
            yield from (inner.name for inner in node.body if isinstance(inner, ast.FunctionDef))


def own_values(tree):
    for node in ast.walk(tree):
        if isinstance(node, ast.Attribute) and isinstance(node.ctx, ast.Store):
            yield node.attr


class LanguageTest(unittest.TestCase):
    def each_file(self):
        for path in FILES:
            if path.is_file():
                text = path.read_text(encoding="utf-8")
                yield path, text, ast.parse(text)

    def each_node(self, *kinds):
        for path, text, tree in self.each_file():
            for node in ast.walk(tree):
                if isinstance(node, kinds):
                    yield path, node

    def test_files(self):
        """[L1, L14]"""
        names = [path.name for path in FILES]
        self.assertIn("__init__.py", names)
        for path in FILES:
            self.assertTrue(path.is_dir() or re.fullmatch(r"__init__\.py|[a-z][a-z0-9_]*\.py", path.name), path.name)
            self.assertNotIn(path.stem, dir(builtins))

    def test_signs_and_size(self):
        """[L10, L14, L27]"""
        for path, text, tree in self.each_file():
            self.assertTrue(all(sign == "\n" or " " <= sign <= "~" for sign in text), path.name)
            self.assertLessEqual(len(text.splitlines()), 400, path.name)
            self.assertLessEqual(max(len(line) for line in text.splitlines()), 120, path.name)
        for path, node in self.each_node(ast.FunctionDef):
            self.assertLessEqual(node.end_lineno - node.lineno + 1, 40, node.name)

    def test_words(self):
        """[L17]"""
        for path, text, tree in self.each_file():
            self.assertIsNone(re.search(WORDS, text), path.name)

    def test_forms(self):
        """[L4, L6, L7, L20, L21]"""
        for path, node in self.each_node(ast.AST):
            self.assertIn(node.__class__.__name__, NODES, path.name)
            if isinstance(node, ast.Constant):
                self.assertIn(node.value.__class__.__name__, ("int", "str", "bool", "NoneType"))
            elif isinstance(node, ast.FunctionDef):
                given = node.args
                self.assertFalse(node.decorator_list or given.vararg or given.kwarg or given.kwonlyargs or node.returns)
            elif isinstance(node, ast.Assign):
                self.assertEqual(len(node.targets), 1)
            elif isinstance(node, ast.ListComp):
                self.assertEqual(len(node.generators), 1)
                self.assertLessEqual(len(node.generators[0].ifs), 1)
            elif isinstance(node, (ast.For, ast.While)):
                self.assertEqual(node.orelse, [])
            elif isinstance(node, ast.BinOp) and isinstance(node.op, ast.Pow):
                self.assertIsInstance(node.right, ast.Constant)

    def test_names(self):
        """[L8, L12, L15, L25]"""
        own = dir(builtins)
        attributes = METHODS + self.own_of_package(own_methods, own_values)
        for path, text, tree in self.each_file():
            top = list(bound_at_top(tree))
            self.assertEqual(sorted(top), sorted(set(top)), path.name)
            imported = [name.name for node in tree.body if isinstance(node, ast.ImportFrom) for name in node.names]
            for name in stored(tree):
                self.assertRegex(name, r"^([A-Za-z][A-Za-z0-9_]*|__init__)$")
                self.assertNotIn(name, own)
                self.assertNotIn(name, imported)
            known = set(top) | set(stored(tree)) | set(OWN_NAMES)
            for node in ast.walk(tree):
                if isinstance(node, ast.Name):
                    self.assertIn(node.id, known)
                elif isinstance(node, ast.Attribute):
                    self.assertIn(node.attr, attributes)

    def own_of_package(self, *kinds):
        return [name for path, text, tree in self.each_file() for kind in kinds for name in kind(tree)]

    def test_classes(self):
        """[L5, L15, L18, L26, L28]"""
        methods, values = self.own_of_package(own_methods), self.own_of_package(own_values)
        self.assertFalse(set(methods) & set(values))
        self.assertFalse((set(methods) | set(values)) & TAKEN)
        for path, text, tree in self.each_file():
            classes = [node for node in ast.walk(tree) if isinstance(node, ast.ClassDef)]
            self.assertEqual(classes, [node for node in tree.body if isinstance(node, ast.ClassDef)])
            for node in classes:
                self.assertFalse(node.bases or node.keywords or node.decorator_list)
                self.assertTrue(all(isinstance(inner, ast.FunctionDef) or is_text(inner) for inner in node.body))
                names = [inner.name for inner in node.body if isinstance(inner, ast.FunctionDef)]
                self.assertEqual(len(names), len(set(names)))
                self.assertLessEqual({name for name in names if name[0] == "_"}, {"__init__"})
            self.assert_called_alone(tree, [node.name for node in classes])

    def assert_called_alone(self, tree, classes):
        called = [id(node.func) for node in ast.walk(tree) if isinstance(node, ast.Call)]
        for node in ast.walk(tree):
            if isinstance(node, ast.Name) and node.id in classes:
                self.assertIn(id(node), called)
            elif isinstance(node, ast.Attribute) and isinstance(node.ctx, ast.Store):
                self.assertEqual(node.value.id, "self")

    def test_imports(self):
        """[L2, L16]"""
        drawn = {}
        for path, text, tree in self.each_file():
            module = "bitsignals" if path.stem == "__init__" else "bitsignals." + path.stem
            drawn[module] = set()
            at_top = [node for node in tree.body if isinstance(node, ast.ImportFrom)]
            self.assertEqual(at_top, [node for node in ast.walk(tree) if isinstance(node, ast.ImportFrom)])
            for node in at_top:
                self.assertEqual(node.level, 0)
                self.assertRegex(node.module, r"^bitsignals\.[a-z]+$")
                source = PACKAGE / (node.module.split(".")[1] + ".py")
                defined = [n for n in ast.parse(source.read_text()).body if not isinstance(n, ast.ImportFrom)]
                names = list(bound_at_top(ast.Module(body=defined, type_ignores=[])))
                for name in node.names:
                    self.assertIsNone(name.asname)
                    self.assertIn(name.name, names)
                drawn[module].update((node.module, "bitsignals"))
        self.assert_no_circle(drawn)

    def assert_no_circle(self, drawn):
        left = dict(drawn)
        while left:
            free = [module for module in left if not left[module] & set(left)]
            self.assertTrue(free, "files draw from one another: " + ", ".join(left))
            for module in free:
                del left[module]

    def test_walked_at_once(self):
        """[L22, L23, L24]"""
        for path, text, tree in self.each_file():
            allowed = set()
            for node in ast.walk(tree):
                if isinstance(node, (ast.For, ast.comprehension)):
                    allowed.add(id(node.iter))
                elif isinstance(node, ast.Call) and isinstance(node.func, ast.Name):
                    if node.func.id in ("list", "tuple", "dict", "sorted", "sum", "any", "all", "enumerate", "zip"):
                        allowed.update(id(given) for given in node.args[:1])
            for node in ast.walk(tree):
                if isinstance(node, ast.Call) and isinstance(node.func, ast.Name):
                    self.assertNotIn(node.func.id, ("set", "frozenset"))
                    if node.func.id in ("zip", "enumerate", "reversed", "range"):
                        self.assertIn(id(node), allowed, path.name)

    def test_tables_hold_what_stands_above_them(self):
        """[L3]"""
        for path, text, tree in self.each_file():
            functions = set()
            for node in tree.body:
                if isinstance(node, ast.FunctionDef):
                    functions.add(node.name)
                elif isinstance(node, ast.Assign):
                    for inner in ast.walk(node.value):
                        if isinstance(inner, ast.Name):
                            self.assertIn(inner.id, functions)
                        self.assertNotIsInstance(inner, (ast.Call, ast.BinOp))
                else:
                    self.assertIsInstance(node, (ast.Expr, ast.ImportFrom, ast.ClassDef))


if __name__ == "__main__":
    unittest.main()
