"""The package keeps to a small part of Python: what of that can be seen by walking its files."""

import ast
import builtins
import pathlib
import re
import unittest

PACKAGE = pathlib.Path(__file__).resolve().parent.parent / "fairdoor"

ALLOWED_OWN = set(
    "len range enumerate zip min max sum abs sorted reversed int str bool list tuple dict set frozenset isinstance ord "
    "repr any all divmod Exception ValueError TypeError KeyError IndexError LookupError ZeroDivisionError "
    "ArithmeticError OverflowError RuntimeError NotImplementedError AttributeError StopIteration".split()
)
ALLOWED_METHODS = set(
    "append clear copy count endswith extend find get index insert isalnum isalpha isdigit islower isspace isupper items "
    "join keys ljust lower lstrip partition pop remove replace reverse rfind rjust rpartition rsplit rstrip setdefault "
    "split splitlines startswith strip update upper values zfill bit_length".split()
)
ALLOWED_NODES = (
    ast.Module, ast.ImportFrom, ast.alias, ast.FunctionDef, ast.arguments, ast.arg, ast.ClassDef, ast.Assign, ast.If,
    ast.While, ast.For, ast.Return, ast.Break, ast.Continue, ast.Pass, ast.Expr, ast.Call, ast.Attribute, ast.Subscript,
    ast.Slice, ast.Name, ast.Constant, ast.List, ast.Tuple, ast.Dict, ast.BinOp, ast.UnaryOp, ast.BoolOp, ast.Compare,
    ast.IfExp, ast.ListComp, ast.comprehension, ast.expr_context, ast.operator, ast.unaryop, ast.boolop, ast.cmpop,
)
FORBIDDEN_NODES = (ast.Div, ast.MatMult, ast.JoinedStr)
FORBIDDEN_WORDS = re.compile(
    r"\b(type|typing|typing_extensions|enum|Enum|IntEnum|StrEnum|Flag|IntFlag|Generic|Protocol|ABC|ABCMeta|namedtuple"
    r"|NamedTuple|TypedDict|TYPE_CHECKING|abstractmethod)\b|dataclass|overload|contextmanager"
)
FORBIDDEN_NAMES = set("register mro elements open input version_info with_traceback add_note".split())
KINDS_OF_PYTHON = (str, int, list, dict, set, frozenset, bytes, tuple)


def files():
    return sorted(path for path in PACKAGE.iterdir() if path.name != "__pycache__")


def nodes_of(path, kind):
    return [node for node in ast.walk(ast.parse(path.read_text())) if isinstance(node, kind)]


class Language(unittest.TestCase):
    def each_file(self):
        for path in files():
            with self.subTest(file=path.name):
                yield path

    def test_files(self):
        self.assertIn("__init__.py", [path.name for path in files()])
        for path in self.each_file():
            self.assertRegex(path.name, r"\A([a-z][a-z0-9_]*|__init__)\.py\Z")
            text = path.read_bytes()
            self.assertTrue(all(sign == 10 or 32 <= sign <= 126 for sign in text))
            rows = text.decode().split("\n")
            self.assertLessEqual(len(rows), 400)
            self.assertLessEqual(max(len(row) for row in rows), 120)
            self.assertIsNone(FORBIDDEN_WORDS.search(text.decode()))

    def test_functions_are_short_and_plain(self):
        for path in self.each_file():
            for node in nodes_of(path, ast.FunctionDef):
                self.assertLessEqual(node.end_lineno - node.lineno + 1, 40, node.name)
                self.assertEqual(node.decorator_list, [])
                rest = node.args
                self.assertEqual((rest.vararg, rest.kwarg, rest.kwonlyargs, rest.posonlyargs), (None, None, [], []))

    def test_only_known_forms(self):
        for path in self.each_file():
            for node in ast.walk(ast.parse(path.read_text())):
                self.assertIsInstance(node, ALLOWED_NODES)
                self.assertNotIsInstance(node, FORBIDDEN_NODES)
                if isinstance(node, ast.Constant):
                    self.assertIn(type(node.value), (int, str, bool, type(None)))
                if isinstance(node, ast.Assign):
                    self.assertEqual(len(node.targets), 1)
                if isinstance(node, (ast.For, ast.While)):
                    self.assertEqual(node.orelse, [])
                if isinstance(node, ast.ListComp):
                    self.assertEqual(len(node.generators), 1)
                    self.assertLessEqual(len(node.generators[0].ifs), 1)

    def test_is_stands_beside_plain_values_alone(self):
        for path in self.each_file():
            for node in nodes_of(path, ast.Compare):
                for sign, value in zip(node.ops, node.comparators):
                    if isinstance(sign, (ast.Is, ast.IsNot)):
                        self.assertIsInstance(value, ast.Constant)

    def test_imports(self):
        defined = {path.stem: self.names_of_top(path) for path in files()}
        drawn = {}
        for path in self.each_file():
            drawn[path.stem] = set()
            for node in nodes_of(path, ast.ImportFrom):
                self.assertEqual((node.level, node.module.split(".")[0]), (0, "fairdoor"))
                origin = node.module.split(".")[1]
                drawn[path.stem].add(origin)
                for name in node.names:
                    self.assertIn(name.name, defined[origin])
        while drawn:
            free = [name for name in drawn if not drawn[name] & set(drawn)]
            self.assertNotEqual(free, [], "files draw from one another")
            drawn = {name: drawn[name] for name in drawn if name not in free}

    def names_of_top(self, path):
        names = []
        for node in ast.parse(path.read_text()).body:
            if isinstance(node, (ast.FunctionDef, ast.ClassDef)):
                names.append(node.name)
            if isinstance(node, ast.Assign):
                names.append(node.targets[0].id)
        self.assertEqual(len(names), len(set(names)))
        return names

    def test_names(self):
        for path in self.each_file():
            tree = ast.parse(path.read_text())
            top = set(self.names_of_top(path))
            imported = {name.name for node in nodes_of(path, ast.ImportFrom) for name in node.names}
            classes = {node.name for node in nodes_of(path, ast.ClassDef)}
            for node in ast.walk(tree):
                if isinstance(node, ast.Name) and isinstance(node.ctx, ast.Load) and hasattr(builtins, node.id):
                    self.assertIn(node.id, ALLOWED_OWN)
                bound = node.arg if isinstance(node, ast.arg) else None
                if isinstance(node, ast.Name) and isinstance(node.ctx, ast.Store):
                    bound = node.id
                if bound is not None:
                    self.assertFalse(hasattr(builtins, bound), bound)
                    self.assertNotIn(bound, (imported | classes) - (top - classes))
                    self.assertFalse(bound.startswith("_"), bound)
                    self.assertNotIn(bound, FORBIDDEN_NAMES)

    def test_values_and_methods_of_objects(self):
        stored, methods, called = set(), set(), set()
        for path in files():
            for node in nodes_of(path, ast.Attribute):
                if isinstance(node.ctx, ast.Store):
                    stored.add(node.attr)
            for node in nodes_of(path, ast.ClassDef):
                methods |= {part.name for part in node.body}
            for node in nodes_of(path, ast.Call):
                if isinstance(node.func, ast.Attribute):
                    called.add(node.func.attr)
        self.assertEqual(stored & methods, set())
        self.assertEqual(called - ALLOWED_METHODS - methods, set())
        for name in stored | (methods - {"__init__"}):
            self.assertFalse(any(hasattr(kind, name) for kind in KINDS_OF_PYTHON), name)
            self.assertNotIn(name, FORBIDDEN_NAMES)


if __name__ == "__main__":
    unittest.main()
