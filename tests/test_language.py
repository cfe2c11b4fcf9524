"""The package's files keep to the rules of LANGUAGE.md that a short walk over them can see."""

import ast
import builtins
import pathlib
import re
import unittest

PACKAGE = pathlib.Path(__file__).resolve().parent.parent / "plancost"

STATEMENTS = (
    ast.FunctionDef, ast.ClassDef, ast.ImportFrom, ast.Assign, ast.AugAssign, ast.If, ast.While, ast.For,
    ast.Return, ast.Break, ast.Continue, ast.Pass, ast.Raise, ast.Try, ast.Expr,
)
EXPRESSIONS = (
    ast.Constant, ast.List, ast.Tuple, ast.Dict, ast.BinOp, ast.UnaryOp, ast.BoolOp, ast.Compare, ast.IfExp,
    ast.Call, ast.Attribute, ast.Subscript, ast.Slice, ast.ListComp, ast.JoinedStr, ast.FormattedValue,
    ast.Name, ast.Lambda, ast.Set,
)
PYTHONS_OWN = (
    "len range enumerate zip min max sum abs sorted reversed int str bool list tuple dict set frozenset"
    " isinstance ord repr any all divmod Exception ValueError TypeError KeyError IndexError LookupError"
    " ZeroDivisionError ArithmeticError OverflowError RuntimeError NotImplementedError AttributeError"
    " StopIteration"
).split()
BANNED_WORDS = re.compile(
    r"\b(type|typing|typing_extensions|enum|Enum|IntEnum|StrEnum|Flag|IntFlag|Generic|Protocol|ABC|ABCMeta"
    r"|namedtuple|NamedTuple|TypedDict|TYPE_CHECKING|abstractmethod)\b|dataclass|overload|contextmanager"
)
PLAIN_NAME = re.compile(r"([A-Za-z][A-Za-z0-9_]*|__(init|eq|repr|str|len)__)\Z")


def sources():
    return {path: path.read_bytes().decode("utf-8") for path in sorted(PACKAGE.rglob("*.py"))}


def parsed():
    return [(path, text, ast.parse(text)) for path, text in sources().items()]


def bound_names(tree):
    names = set()
    for node in ast.walk(tree):
        if isinstance(node, (ast.FunctionDef, ast.ClassDef)):
            names.add(node.name)
        elif isinstance(node, ast.arg):
            names.add(node.arg)
        elif isinstance(node, ast.ExceptHandler) and node.name:
            names.add(node.name)
        elif isinstance(node, ast.Name) and isinstance(node.ctx, ast.Store):
            names.add(node.id)
        elif isinstance(node, ast.ImportFrom):
            names.update(alias.name for alias in node.names)
    return names


class Language(unittest.TestCase):
    def test_files(self):
        others = [path for path in PACKAGE.rglob("*") if path.suffix != ".py" and "__pycache__" not in path.parts]
        self.assertEqual(others, [])
        self.assertIn(PACKAGE / "__init__.py", sources())
        self.assertIn(PACKAGE / "desk.py", sources())
        for path in sources():
            self.assertRegex(path.name, r"\A([a-z][a-z0-9_]*|__init__)\.py\Z")

    def test_signs_and_sizes(self):
        for path, text, tree in parsed():
            with self.subTest(file=path.name):
                self.assertRegex(text, r"\A[ -~\n]*\Z")
                self.assertLessEqual(len(text.splitlines()), 400)
                self.assertLessEqual(max(len(line) for line in text.splitlines()), 120)
                for node in ast.walk(tree):
                    if isinstance(node, ast.FunctionDef):
                        self.assertLessEqual(node.end_lineno - node.lineno + 1, 40, node.name)

    def test_words(self):
        for path, text, tree in parsed():
            with self.subTest(file=path.name):
                self.assertIsNone(BANNED_WORDS.search(text))

    def test_nodes(self):
        for path, text, tree in parsed():
            for node in ast.walk(tree):
                with self.subTest(file=path.name, node=node):
                    self.check_node(node)

    def check_node(self, node):
        if isinstance(node, ast.stmt):
            self.assertIsInstance(node, STATEMENTS, ast.dump(node))
        if isinstance(node, ast.expr):
            self.assertIsInstance(node, EXPRESSIONS, ast.dump(node))
        if isinstance(node, ast.Constant):
            self.assertIn(type(node.value), (int, str, bool, type(None)))
        self.assertNotIsInstance(node, (ast.Div, ast.MatMult))
        if isinstance(node, (ast.For, ast.While)):
            self.assertEqual(node.orelse, [])
        if isinstance(node, ast.Assign):
            self.assertEqual(len(node.targets), 1)

    def test_calls_stand_by_themselves_alone(self):
        for path, text, tree in parsed():
            for node in ast.walk(tree):
                if isinstance(node, ast.Expr) and node is not tree.body[0]:
                    with self.subTest(file=path.name, line=node.lineno):
                        self.assertIsInstance(node.value, ast.Call)

    def test_names(self):
        for path, text, tree in parsed():
            bound = bound_names(tree)
            for name in sorted(bound):
                with self.subTest(file=path.name, name=name):
                    self.assertRegex(name, PLAIN_NAME)
                    self.assertNotIn(name, dir(builtins))
            for node in ast.walk(tree):
                if isinstance(node, ast.Name) and isinstance(node.ctx, ast.Load):
                    with self.subTest(file=path.name, line=node.lineno, name=node.id):
                        self.assertTrue(node.id in bound or node.id in PYTHONS_OWN)

    def test_locals_are_not_called_like_an_import(self):
        for path, text, tree in parsed():
            drawn = [alias.name for node in tree.body if isinstance(node, ast.ImportFrom) for alias in node.names]
            for function in [node for node in ast.walk(tree) if isinstance(node, ast.FunctionDef)]:
                with self.subTest(file=path.name, function=function.name):
                    self.assertEqual(bound_names(function) & set(drawn), set())

    def test_no_function_calls_itself_in_however_many_steps(self):
        called = {}
        for path, text, tree in parsed():
            for function in [node for node in ast.walk(tree) if isinstance(node, ast.FunctionDef)]:
                self.assertNotIn(function.name, called, "a name twice would blur who calls whom")
                called[function.name] = {node.id for node in ast.walk(function) if isinstance(node, ast.Name)}
        while called:
            ready = [name for name in called if not any(other in called for other in called[name])]
            self.assertNotEqual(ready, [], "functions call one another in a ring")
            for name in ready:
                called.pop(name)

    def test_imports(self):
        drawn = {}
        for path, text, tree in parsed():
            drawn[path.stem] = []
            for node in ast.walk(tree):
                if isinstance(node, ast.ImportFrom):
                    with self.subTest(file=path.name, line=node.lineno):
                        self.assertIn(node, tree.body)
                        self.assertEqual(node.level, 0)
                        self.assertRegex(node.module, r"\Aplancost\.[a-z_]+\Z")
                        self.assertNotIn("*", [alias.name for alias in node.names])
                    drawn[path.stem].append(node.module.split(".")[1])
        self.assertEqual(drawn["__init__"], [])
        while drawn:
            ready = [name for name in drawn if not any(other in drawn for other in drawn[name])]
            self.assertNotEqual(ready, [], "files draw from one another")
            for name in ready:
                drawn.pop(name)


if __name__ == "__main__":
    unittest.main()
