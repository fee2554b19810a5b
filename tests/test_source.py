"""What the package's own files must keep to, so far as it can be seen from their text."""

import ast
import builtins
import inspect
import pathlib
import re
import unittest

from roomacoustics import rooms

PACKAGE = pathlib.Path(__file__).resolve().parent.parent / "roomacoustics"

BUILT_IN = set(
    "len range enumerate zip min max sum abs sorted reversed int str bool list tuple dict set frozenset "
    "isinstance ord repr any all divmod Exception ValueError KeyError IndexError LookupError "
    "ZeroDivisionError ArithmeticError OverflowError RuntimeError NotImplementedError".split()
)
METHODS = set("append copy count extend get index insert items keys pop remove reverse values update".split())
NODES = (
    ast.Module, ast.FunctionDef, ast.arguments, ast.arg, ast.Expr, ast.Assign, ast.AugAssign, ast.If, ast.While,
    ast.For, ast.Return, ast.Break, ast.Continue, ast.Pass, ast.Constant, ast.Name, ast.Load, ast.Store, ast.List,
    ast.Tuple, ast.Dict, ast.BinOp, ast.UnaryOp, ast.BoolOp, ast.Compare, ast.IfExp, ast.Call, ast.Attribute,
    ast.Subscript, ast.Slice, ast.ListComp, ast.comprehension, ast.operator, ast.unaryop, ast.boolop, ast.cmpop,
)
WORDS = re.compile(
    r"\b(type|typing|typing_extensions|enum|Enum|IntEnum|StrEnum|Flag|IntFlag|Generic|Protocol|ABC|ABCMeta|"
    r"namedtuple|NamedTuple|TypedDict|TYPE_CHECKING|abstractmethod)\b|dataclass|overload|contextmanager"
)


def sources():
    return [(path, path.read_text(encoding="utf-8")) for path in sorted(PACKAGE.glob("*.py"))]


def nodes():
    return [(path, node) for path, text in sources() for node in ast.walk(ast.parse(text))]


class Source(unittest.TestCase):
    def test_there_is_a_package(self):
        names = [path.name for path, text in sources()]
        self.assertIn("__init__.py", names)
        self.assertIn("rooms.py", names)

    def test_nothing_else_lies_in_it(self):
        for path in PACKAGE.iterdir():
            if path.name != "__pycache__":
                self.assertRegex(path.name, r"\A[a-z0-9_]+\.py\Z")

    def test_only_plain_parts_of_the_language(self):
        for path, node in nodes():
            # Imports aren't among them: the package imports nothing.
            self.assertIsInstance(node, NODES, f"{path.name}: {ast.dump(node)}")
            self.assertNotIsInstance(node, (ast.Div, ast.MatMult))
            if isinstance(node, ast.Constant):
                self.assertIn(node.value.__class__, (int, str, bool, None.__class__))
            if isinstance(node, ast.Compare):
                for operator, other in zip(node.ops, node.comparators):
                    if isinstance(operator, (ast.Is, ast.IsNot)):
                        self.assertIn(getattr(other, "value", 0), (None, True, False))
            if isinstance(node, ast.Assign):
                self.assertEqual(len(node.targets), 1)
            if isinstance(node, (ast.For, ast.While)):
                self.assertEqual(node.orelse, [])

    def test_functions_are_plain(self):
        for path, node in nodes():
            if isinstance(node, ast.FunctionDef):
                given = node.args
                self.assertEqual(node.decorator_list, [])
                self.assertEqual([given.vararg, given.kwarg, given.kwonlyargs, given.posonlyargs], [None, None, [], []])
                self.assertLessEqual(node.end_lineno - node.lineno + 1, 40, node.name)

    def test_names(self):
        for path, node in nodes():
            if isinstance(node, ast.Name) and isinstance(node.ctx, ast.Load) and hasattr(builtins, node.id):
                self.assertIn(node.id, BUILT_IN)
            if isinstance(node, ast.Attribute):
                self.assertIn(node.attr, METHODS)
            for name in bound_names(node):
                self.assertRegex(name, r"\A[A-Za-z][A-Za-z0-9_]*\Z")
                self.assertFalse(hasattr(builtins, name), name)

    def test_signs_and_words(self):
        for path, text in sources():
            self.assertRegex(text, r"\A[ -~\n]*\Z")
            self.assertIsNone(WORDS.search(text), path.name)

    def test_size(self):
        for path, text in sources():
            lines = text.splitlines()
            self.assertLessEqual(len(lines), 400, path.name)
            for line in lines:
                self.assertLessEqual(len(line), 120, line)


class Interface(unittest.TestCase):
    def test_parameters(self):
        expected = {
            "judge": ["room"],
            "sizes": ["room"],
            "where": ["x", "y", "z", "room"],
            "clear": ["x", "y", "z", "u", "v", "w", "room"],
            "mirror": ["wall", "x", "y", "z", "room"],
            "meets": ["x", "y", "z", "u", "v", "w", "room"],
        }
        for name, parameters in expected.items():
            signature = inspect.signature(getattr(rooms, name))
            self.assertEqual(list(signature.parameters), parameters)
            for parameter in signature.parameters.values():
                self.assertIs(parameter.default, inspect.Parameter.empty)


def bound_names(node):
    if isinstance(node, ast.FunctionDef):
        return [node.name]
    if isinstance(node, ast.arg):
        return [node.arg]
    if isinstance(node, ast.Name) and isinstance(node.ctx, ast.Store):
        return [node.id]
    return []


if __name__ == "__main__":
    unittest.main()
