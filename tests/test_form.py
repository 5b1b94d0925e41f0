"""The package's files keep to the small part of Python that the program is written in."""

import ast
import builtins
import pathlib
import re
import unittest

PACKAGE = pathlib.Path(__file__).resolve().parent.parent / "steadyweight"
ALLOWED_NODES = (
    ast.Module, ast.Expr, ast.Constant, ast.Assign, ast.AugAssign, ast.Name, ast.Attribute, ast.Subscript, ast.Slice,
    ast.FunctionDef, ast.ClassDef, ast.arguments, ast.arg, ast.Return, ast.If, ast.While, ast.For, ast.Break,
    ast.Continue, ast.Pass, ast.Call, ast.BinOp, ast.UnaryOp, ast.BoolOp, ast.Compare, ast.IfExp, ast.List, ast.Tuple,
    ast.Dict, ast.ListComp, ast.comprehension, ast.operator, ast.unaryop, ast.boolop, ast.cmpop, ast.expr_context,
)
ALLOWED_BUILTINS = {
    "len", "range", "enumerate", "zip", "min", "max", "sum", "abs", "sorted", "reversed", "int", "str", "bool",
    "list", "tuple", "dict", "isinstance", "any", "all", "divmod",
}
ALLOWED_METHODS = {"append", "extend", "get", "items", "keys", "values", "copy", "index", "pop"}
WORDS_LEFT_OUT = re.compile(
    r"\b(type|typing|typing_extensions|enum|Enum|IntEnum|StrEnum|Flag|IntFlag|Generic|Protocol|ABC|ABCMeta|namedtuple"
    r"|NamedTuple|TypedDict|TYPE_CHECKING|abstractmethod)\b|dataclass|overload|contextmanager"
)


def sources():
    return {path.name: path.read_bytes().decode("ascii") for path in sorted(PACKAGE.glob("*.py"))}


def nodes():
    for name, text in sources().items():
        for node in ast.walk(ast.parse(text)):
            yield name, node


class Form(unittest.TestCase):
    def test_files(self):
        found = sorted(path.name for path in PACKAGE.iterdir() if path.name != "__pycache__")
        self.assertEqual(found, ["__init__.py", "pan.py"])

    def test_signs_and_sizes(self):
        for name, text in sources().items():
            self.assertIsNone(re.search(r"[^ -~\n]", text), name)
            self.assertIsNone(WORDS_LEFT_OUT.search(text), name)
            self.assertLessEqual(len(text.splitlines()), 399)
            self.assertLessEqual(max(map(len, text.splitlines())), 120)

    def test_statements_and_expressions(self):
        for name, node in nodes():
            where = f"{name}:{getattr(node, 'lineno', 0)}"
            self.assertIsInstance(node, ALLOWED_NODES, where)
            if isinstance(node, (ast.For, ast.While)):
                self.assertEqual(node.orelse, [], where)
            if isinstance(node, ast.Assign):
                self.assertEqual(len(node.targets), 1, where)
            if isinstance(node, ast.BinOp):
                self.assertNotIsInstance(node.op, (ast.Div, ast.MatMult), where)
            if isinstance(node, ast.Constant):
                self.assertIn(type(node.value), (int, str, bool, type(None)), where)
            if isinstance(node, ast.ListComp):
                self.assertEqual(len(node.generators), 1, where)

    def test_defs(self):
        for name, node in nodes():
            if isinstance(node, ast.FunctionDef):
                where = f"{name}:{node.name}"
                self.assertLessEqual(node.end_lineno - node.lineno + 1, 40, where)
                self.assertEqual(node.decorator_list, [], where)
                for names in (node.args.posonlyargs, node.args.kwonlyargs, node.args.defaults):
                    self.assertEqual(names, [], where)
                self.assertIsNone(node.args.vararg or node.args.kwarg, where)
                self.assertIsNone(ast.get_docstring(node), where)
                self.assertTrue(node.name == "__init__" or not node.name.startswith("_"), where)

    def test_names(self):
        for name, node in nodes():
            if isinstance(node, ast.Name):
                where = f"{name}:{node.lineno} {node.id}"
                self.assertFalse(node.id.startswith("_"), where)
                if hasattr(builtins, node.id):
                    self.assertIn(node.id, ALLOWED_BUILTINS, where)
                    self.assertIsInstance(node.ctx, ast.Load, where)
            if isinstance(node, ast.arg):
                self.assertFalse(hasattr(builtins, node.arg), f"{name}:{node.arg}")

    def test_methods(self):
        own = {node.name for _, node in nodes() if isinstance(node, ast.FunctionDef)}
        for name, node in nodes():
            if isinstance(node, ast.Call) and isinstance(node.func, ast.Attribute):
                self.assertIn(node.func.attr, ALLOWED_METHODS | own, f"{name}:{node.lineno}")

    def test_nothing_kept_at_the_top(self):
        for name, text in sources().items():
            bound = []
            for node in ast.parse(text).body:
                if isinstance(node, ast.Assign):
                    self.assertIsInstance(ast.literal_eval(node.value), (int, str, tuple), name)
                    bound.append(node.targets[0].id)
                elif isinstance(node, (ast.FunctionDef, ast.ClassDef)):
                    bound.append(node.name)
                else:
                    self.assertIsInstance(node, ast.Expr, name)
            self.assertEqual(len(bound), len(set(bound)), name)


if __name__ == "__main__":
    unittest.main()
