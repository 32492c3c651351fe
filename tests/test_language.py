"""The form of the package's files: what of the language's rules can be asked of a file without running it."""

import ast
import builtins
import pathlib
import re
import unittest

PACKAGE = pathlib.Path(__file__).resolve().parent.parent / "readtimes"
FILES = sorted(PACKAGE.rglob("*.py"))
NODES = {
    "Module", "ImportFrom", "alias", "FunctionDef", "arguments", "arg", "ClassDef", "Assign", "AugAssign", "If",
    "While", "For", "Return", "Break", "Continue", "Pass", "Raise", "Expr", "Call", "Attribute", "Subscript", "Slice",
    "Name", "Load", "Store", "Constant", "List", "Tuple", "Dict", "ListComp", "comprehension", "BinOp", "UnaryOp",
    "BoolOp", "Compare", "IfExp", "Add", "Sub", "Mult", "FloorDiv", "Mod", "USub", "And", "Or", "Not", "Eq", "NotEq",
    "Lt", "LtE", "Gt", "GtE", "Is", "IsNot", "In", "NotIn",
}
OWN_NAMES = {
    "len", "range", "enumerate", "zip", "min", "max", "sum", "abs", "sorted", "reversed", "int", "str", "bool", "list",
    "tuple", "dict", "isinstance", "repr", "any", "all", "divmod", "ValueError", "KeyError",
}
METHODS = {
    "append", "clear", "copy", "count", "extend", "get", "index", "insert", "items", "keys", "pop", "remove",
    "reverse", "setdefault", "update", "values",
}
WORDS = re.compile(
    r"\b(type|typing|typing_extensions|enum|Enum|IntEnum|StrEnum|Flag|IntFlag|Generic|Protocol|ABC|ABCMeta|namedtuple"
    r"|NamedTuple|TypedDict|TYPE_CHECKING|abstractmethod)\b|dataclass|overload|contextmanager"
)


def trees():
    return [(path.name, ast.parse(path.read_text())) for path in FILES]


def nodes():
    return [(name, node) for name, tree in trees() for node in ast.walk(tree)]


class Language(unittest.TestCase):
    def test_nothing_else_lies_in_the_package(self):
        others = [path for path in PACKAGE.rglob("*") if path not in FILES and "__pycache__" not in str(path)]
        self.assertEqual(others, [])
        self.assertIn(PACKAGE / "__init__.py", FILES)

    def test_signs_and_sizes(self):
        for path in FILES:
            text = path.read_bytes().decode("ascii")
            self.assertTrue(all(sign == "\n" or " " <= sign <= "~" for sign in text), path.name)
            self.assertLessEqual(len(text.splitlines()), 400, path.name)
            self.assertLessEqual(max(len(line) for line in text.splitlines()), 120, path.name)
            self.assertIsNone(WORDS.search(text), path.name)

    def test_functions_are_short_and_plain(self):
        for name, node in nodes():
            if isinstance(node, ast.FunctionDef):
                self.assertLessEqual(node.end_lineno - node.lineno + 1, 40, (name, node.name))
                self.assertEqual(node.decorator_list, [], (name, node.name))
                self.assertTrue(node.name == "__init__" or not hasattr(builtins, node.name), (name, node.name))
                self.assertIsNone(node.args.vararg or node.args.kwarg, (name, node.name))

    def test_statements_and_expressions(self):
        for name, node in nodes():
            self.assertIn(node.__class__.__name__, NODES, (name, getattr(node, "lineno", 0)))
            if isinstance(node, (ast.While, ast.For)):
                self.assertEqual(node.orelse, [], (name, node.lineno))
            if isinstance(node, ast.Assign):
                self.assertEqual(len(node.targets), 1, (name, node.lineno))
                self.assertNotIsInstance(node.targets[0], (ast.Tuple, ast.List), (name, node.lineno))
            if isinstance(node, ast.Constant):
                self.assertIsInstance(node.value, (int, str, type(None)), (name, node.lineno))

    def test_imports_are_the_package_s_own(self):
        for name, node in nodes():
            if isinstance(node, ast.ImportFrom):
                self.assertTrue(node.level == 0 and node.module.startswith("readtimes."), (name, node.lineno))
                source = PACKAGE / (node.module.split(".")[1] + ".py")
                defined = [part.name for part in ast.parse(source.read_text()).body if hasattr(part, "name")]
                for drawn in node.names:
                    self.assertIn(drawn.name, defined, (name, node.lineno))

    def test_names(self):
        for name, node in nodes():
            if isinstance(node, ast.Name):
                self.assertFalse(node.id.startswith("_"), (name, node.lineno))
                if hasattr(builtins, node.id):
                    self.assertIn(node.id, OWN_NAMES, (name, node.lineno))
                    self.assertIsInstance(node.ctx, ast.Load, (name, node.lineno))
            if isinstance(node, ast.arg):
                self.assertFalse(hasattr(builtins, node.arg), (name, node.lineno))

    def test_methods_and_values_of_objects(self):
        methods, values = set(), set()
        for name, node in nodes():
            if isinstance(node, ast.ClassDef):
                methods |= {part.name for part in node.body if isinstance(part, ast.FunctionDef)}
            if isinstance(node, ast.Attribute) and isinstance(node.ctx, ast.Store):
                values.add(node.attr)
        self.assertEqual(methods & values, set())
        for name, node in nodes():
            if isinstance(node, ast.Attribute):
                self.assertIn(node.attr, methods | values | METHODS, (name, node.lineno))


if __name__ == "__main__":
    unittest.main()
