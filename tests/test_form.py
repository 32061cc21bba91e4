"""The package keeps to the small part of Python that it is written in."""

import ast
import pathlib
import re
import unittest

import matchtables

FOLDER = pathlib.Path(matchtables.__file__).parent

STATEMENTS = (
    ast.Assign, ast.AugAssign, ast.If, ast.While, ast.For, ast.Return, ast.Break, ast.Continue, ast.Pass, ast.Raise,
    ast.Try, ast.Expr, ast.FunctionDef, ast.ClassDef, ast.ImportFrom,
)
EXPRESSIONS = (
    ast.Constant, ast.List, ast.Tuple, ast.Dict, ast.BinOp, ast.UnaryOp, ast.Compare, ast.BoolOp, ast.IfExp, ast.Call,
    ast.Attribute, ast.Subscript, ast.Slice, ast.ListComp, ast.JoinedStr, ast.FormattedValue, ast.Name, ast.Lambda,
)
OWN_NAMES = set("""
    len range enumerate zip min max sum abs sorted reversed int str bool list tuple dict set frozenset isinstance ord
    repr any all divmod Exception ValueError TypeError KeyError IndexError LookupError ZeroDivisionError
    ArithmeticError OverflowError RuntimeError NotImplementedError AttributeError StopIteration
""".split())
OWN_METHODS = set("""
    append clear copy count endswith extend find get index insert isalnum isalpha isdigit islower isspace isupper
    items join keys ljust lower lstrip partition pop remove replace reverse rfind rjust rpartition rsplit rstrip
    setdefault split splitlines startswith strip update upper values zfill bit_length
""".split())
UNUSED_NAMES = set("""
    register mro elements open input version_info with_traceback add_note attrgetter breakpoint builtins compile
    copyright credits delattr dir eval exec exit gc getattr globals hasattr help id importlib license locals
    methodcaller os quit setattr super type vars sys format format_map
""".split())
UNUSED_WORDS = re.compile(
    r"\b(type|typing|typing_extensions|enum|Enum|IntEnum|StrEnum|Flag|IntFlag|Generic|Protocol|ABC|ABCMeta|namedtuple"
    r"|NamedTuple|TypedDict|TYPE_CHECKING|abstractmethod)\b|dataclass|overload|contextmanager")
WALKED_AT_ONCE = ("zip", "enumerate", "reversed", "range", "items", "keys", "values")
WALKERS = ("list", "tuple", "dict", "sorted", "sum", "any", "all", "enumerate", "zip", "min", "max", "join")


def called_name(node):
    """The name that a call calls, be it a function's or a method's."""
    if not isinstance(node, ast.Call):
        return None
    return node.func.id if isinstance(node.func, ast.Name) else node.func.attr


class Form(unittest.TestCase):
    def setUp(self):
        self.texts = {path.stem: path.read_bytes() for path in sorted(FOLDER.glob("*.py"))}
        self.trees = {name: ast.parse(text) for name, text in self.texts.items()}

    def nodes(self, *kinds):
        """All nodes of these kinds, each with its file and line."""
        for name, tree in self.trees.items():
            for node in ast.walk(tree):
                if isinstance(node, kinds):
                    yield f"{name}, line {getattr(node, 'lineno', 0)}", node

    def test_files(self):
        others = [path.name for path in FOLDER.iterdir() if path.suffix != ".py" and path.name != "__pycache__"]
        self.assertEqual(others, [])
        self.assertIn("analyzer", self.texts)
        for name in self.texts:
            self.assertRegex(name, r"^(__init__|[a-z][a-z0-9_]*)$")

    def test_signs_sizes_and_words(self):
        for name, text in self.texts.items():
            lines = text.decode("ascii").split("\n")
            self.assertLess(len(lines), 400, name)
            for line in lines:
                self.assertLessEqual(len(line), 120, line)
                self.assertRegex(line, r"^[ -~]*$")
                self.assertIsNone(UNUSED_WORDS.search(line), line)
        for where, node in self.nodes(ast.FunctionDef):
            self.assertLessEqual(node.end_lineno - node.lineno + 1, 40, where)

    def test_statements_and_expressions(self):
        for where, node in self.nodes(ast.stmt):
            self.assertIsInstance(node, STATEMENTS, where)
            if isinstance(node, ast.Assign):
                self.assertEqual(len(node.targets), 1, where)
            if isinstance(node, (ast.For, ast.While)):
                self.assertEqual(node.orelse, [], where)
            if isinstance(node, ast.Expr):
                self.assertIsInstance(node.value, (ast.Call, ast.Constant), where)
        for where, node in self.nodes(ast.expr):
            self.assertIsInstance(node, EXPRESSIONS, where)
            if isinstance(node, ast.ListComp):
                self.assertEqual(len(node.generators), 1, where)
                self.assertLessEqual(len(node.generators[0].ifs), 1, where)
            if isinstance(node, ast.BinOp):
                self.assertNotIsInstance(node.op, (ast.Div, ast.MatMult), where)
            if isinstance(node, ast.BinOp) and isinstance(node.op, ast.Pow):
                self.assertIsInstance(node.right, ast.Constant, where)
            if isinstance(node, ast.Compare) and any(isinstance(op, (ast.Is, ast.IsNot)) for op in node.ops):
                self.assertIn(repr(getattr(node.comparators[0], "value", "")), ("None", "True", "False"), where)

    def test_functions_and_classes(self):
        for where, node in self.nodes(ast.FunctionDef, ast.ClassDef):
            self.assertEqual(node.decorator_list, [], where)
        for where, node in self.nodes(ast.arguments):
            self.assertIsNone(node.vararg or node.kwarg, where)
            self.assertEqual(node.kwonlyargs + node.posonlyargs, [], where)
            self.assertEqual([one.annotation for one in node.args if one.annotation], [], where)
        for name, tree in self.trees.items():
            for node in tree.body:
                if isinstance(node, ast.Expr):
                    self.assertIs(node, tree.body[0])
                else:
                    self.assertIsInstance(node, (ast.Assign, ast.FunctionDef, ast.ClassDef, ast.ImportFrom))

    def test_names(self):
        for name, tree in self.trees.items():
            bound, shared = set(), set()
            for node in ast.walk(tree):
                if isinstance(node, (ast.FunctionDef, ast.ClassDef)):
                    bound.add(node.name)
                elif isinstance(node, ast.alias):
                    bound.add(node.asname or node.name)
                    shared.add(node.asname or node.name)
                elif isinstance(node, ast.arg):
                    bound.add(node.arg)
                elif isinstance(node, ast.Name) and isinstance(node.ctx, ast.Store):
                    bound.add(node.id)
                if isinstance(node, ast.ClassDef):
                    shared.add(node.name)
            for node in ast.walk(tree):
                if isinstance(node, ast.arg):
                    self.assertNotIn(node.arg, shared | OWN_NAMES, name)
                if isinstance(node, ast.Name):
                    self.assertIn(node.id, bound | OWN_NAMES, name)
                    if isinstance(node.ctx, ast.Store):
                        self.assertNotIn(node.id, shared | OWN_NAMES, name)
            for one in bound - {"__init__"}:
                self.assertRegex(one, r"^[A-Za-z][A-Za-z0-9_]*$")
                self.assertNotIn(one, UNUSED_NAMES)

    def test_attributes(self):
        methods = {node.name for _, top in self.nodes(ast.ClassDef) for node in top.body
                   if isinstance(node, ast.FunctionDef)}
        stored = {node.attr for _, node in self.nodes(ast.Attribute) if isinstance(node.ctx, ast.Store)}
        self.assertEqual(methods & stored, set())
        for where, node in self.nodes(ast.Attribute):
            if isinstance(node.ctx, ast.Store):
                self.assertIsInstance(node.value, ast.Name, where)
            self.assertIn(node.attr, methods | stored | OWN_METHODS, where)
            self.assertNotIn(node.attr, UNUSED_NAMES, where)

    def test_imports(self):
        drawn = {}
        for where, node in self.nodes(ast.ImportFrom):
            name = where.split(",")[0]
            self.assertEqual(node.level, 0, where)
            package, source = node.module.split(".")
            self.assertEqual(package, "matchtables")
            drawn.setdefault(name, []).append(source)
            tops = [getattr(top, "name", None) or getattr(getattr(top, "targets", [None])[0], "id", None)
                    for top in self.trees[source].body]
            for alias in node.names:
                self.assertIn(alias.name, tops)
        for name in drawn:
            reached, waiting = [], list(drawn[name])
            while waiting:
                source = waiting.pop()
                if source not in reached:
                    reached.append(source)
                    waiting += drawn.get(source, [])
            self.assertNotIn(name, reached)

    def test_walked_at_once(self):
        for name, tree in self.trees.items():
            right = []
            for node in ast.walk(tree):
                if isinstance(node, (ast.For, ast.comprehension)):
                    right.append(node.iter)
                if called_name(node) in WALKERS:
                    right += node.args
            for node in ast.walk(tree):
                if called_name(node) in WALKED_AT_ONCE:
                    self.assertIn(node, right, f"{name} {node.lineno}")

    def test_sets(self):
        for name, tree in self.trees.items():
            right = []
            for node in ast.walk(tree):
                if isinstance(node, ast.Compare):
                    right += node.comparators
                if called_name(node) in ("sorted", "len"):
                    right += node.args
            for node in ast.walk(tree):
                if called_name(node) in ("set", "frozenset"):
                    self.assertIn(node, right, f"{name} {node.lineno}")

    def test_the_interface(self):
        where = [(name, top) for name, tree in self.trees.items() for top in tree.body
                 if getattr(top, "name", None) == "answers"]
        self.assertEqual([name for name, _ in where], ["analyzer"])
        self.assertEqual([one.arg for one in where[0][1].args.args], ["calls"])
        self.assertEqual(where[0][1].args.defaults, [])


if __name__ == "__main__":
    unittest.main()
