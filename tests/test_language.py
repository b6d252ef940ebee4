"""The package keeps to its small part of Python: what a look at each file can tell of rules L1 to L28."""
import ast
import builtins
import pathlib
import re
import unittest

import shapecores

FOLDER = pathlib.Path(shapecores.__file__).parent

STATEMENTS = (
    ast.Assign, ast.AugAssign, ast.If, ast.While, ast.For, ast.Return, ast.Break, ast.Continue, ast.Pass, ast.Raise,
    ast.Try, ast.Expr, ast.FunctionDef, ast.ClassDef,
)
EXPRESSIONS = (
    ast.BinOp, ast.UnaryOp, ast.BoolOp, ast.Compare, ast.IfExp, ast.Call, ast.Attribute, ast.Subscript, ast.Slice,
    ast.ListComp, ast.JoinedStr, ast.FormattedValue, ast.Constant, ast.Name, ast.List, ast.Tuple, ast.Dict, ast.Set,
    ast.Lambda,
)
BUILT_IN = set(
    "len range enumerate zip min max sum abs sorted reversed int str bool list tuple dict set frozenset isinstance ord"
    " repr any all divmod Exception ValueError TypeError KeyError IndexError LookupError ZeroDivisionError"
    " ArithmeticError OverflowError RuntimeError NotImplementedError AttributeError StopIteration".split()
)
METHODS = set(
    "append clear copy count endswith extend find get index insert isalnum isalpha isdigit islower isspace isupper"
    " items join keys ljust lower lstrip partition pop remove replace reverse rfind rjust rpartition rsplit rstrip"
    " setdefault split splitlines startswith strip update upper values zfill bit_length".split()
)
WORDS = re.compile(
    r"\b(type|typing|typing_extensions|enum|Enum|IntEnum|StrEnum|Flag|IntFlag|Generic|Protocol|ABC|ABCMeta|namedtuple"
    r"|NamedTuple|TypedDict|TYPE_CHECKING|abstractmethod)\b|dataclass|overload|contextmanager"
)


def files():
    return sorted(FOLDER.glob("**/*.py"))


def nodes(path):
    return list(ast.walk(ast.parse(path.read_text(encoding="utf-8"))))


def bound_names(found):
    names = set()
    for node in found:
        if isinstance(node, (ast.FunctionDef, ast.ClassDef)):
            names.add(node.name)
        elif isinstance(node, ast.arg):
            names.add(node.arg)
        elif isinstance(node, ast.Name) and isinstance(node.ctx, ast.Store):
            names.add(node.id)
        elif isinstance(node, ast.ExceptHandler) and node.name:
            names.add(node.name)
    return names


def own_attributes(found):
    names = {node.name for node in found if isinstance(node, ast.FunctionDef)}
    return names | {n.attr for n in found if isinstance(n, ast.Attribute) and isinstance(n.ctx, ast.Store)}


class Files(unittest.TestCase):
    def test_nothing_else_lies_in_the_package(self):
        others = [p for p in FOLDER.glob("**/*") if p.suffix != ".py" and "__pycache__" not in p.parts]
        self.assertEqual(others, [])
        self.assertIn(FOLDER / "__init__.py", files())
        self.assertIn(FOLDER / "shape.py", files())

    def test_signs_and_sizes(self):
        for path in files():
            text = path.read_bytes().decode("ascii")
            self.assertEqual([sign for sign in text if sign != "\n" and not " " <= sign <= "~"], [])
            self.assertLessEqual(len(text.splitlines()), 400)
            self.assertLessEqual(max(map(len, text.splitlines())), 120)
            self.assertIsNone(WORDS.search(text))

    def test_functions_are_short(self):
        for path in files():
            for node in nodes(path):
                if isinstance(node, ast.FunctionDef):
                    self.assertLessEqual(node.end_lineno - node.lineno + 1, 40, node.name)


class Forms(unittest.TestCase):
    def each(self, kind):
        for path in files():
            for node in nodes(path):
                if isinstance(node, kind):
                    yield node

    def test_nothing_is_imported(self):
        self.assertEqual(list(self.each((ast.Import, ast.ImportFrom))), [])

    def test_statements(self):
        for node in self.each(ast.stmt):
            self.assertIsInstance(node, STATEMENTS)
            if isinstance(node, (ast.For, ast.While)):
                self.assertEqual(node.orelse, [])
            if isinstance(node, ast.Try):
                self.assertEqual(node.finalbody, [])
            if isinstance(node, ast.Assign):
                self.assertEqual(len(node.targets), 1)

    def test_expressions(self):
        for node in self.each(ast.expr):
            self.assertIsInstance(node, EXPRESSIONS)
            if isinstance(node, ast.BinOp):
                self.assertNotIsInstance(node.op, (ast.Div, ast.MatMult))
            if isinstance(node, ast.Constant):
                self.assertIsInstance(node.value, (int, str, bool, type(None)))
            if isinstance(node, ast.ListComp):
                self.assertEqual(len(node.generators), 1)
                self.assertLessEqual(len(node.generators[0].ifs), 1)

    def test_expressions_by_themselves_are_calls(self):
        for path in files():
            tree = ast.parse(path.read_text(encoding="utf-8"))
            for node in ast.walk(tree):
                if isinstance(node, ast.Expr) and node is not tree.body[0]:
                    self.assertIsInstance(node.value, ast.Call)

    def test_functions_are_plain(self):
        for node in self.each(ast.FunctionDef):
            spread = node.args.vararg, node.args.kwarg, node.args.kwonlyargs, node.args.posonlyargs
            self.assertEqual(spread, (None, None, [], []))
            self.assertEqual((node.decorator_list, node.returns), ([], None))

    def test_names(self):
        for path in files():
            found = nodes(path)
            bound = bound_names(found)
            self.assertEqual(bound & set(dir(builtins)), set())
            self.assertEqual([name for name in bound if name.startswith("_") and name != "__init__"], [])
            read = {node.id for node in found if isinstance(node, ast.Name)}
            self.assertEqual(read - bound - BUILT_IN, set())

    def test_methods(self):
        for path in files():
            found = nodes(path)
            used = {node.attr for node in found if isinstance(node, ast.Attribute)}
            self.assertEqual(used - own_attributes(found) - METHODS, set())

    def test_names_at_the_top_are_bound_once(self):
        for path in files():
            names = []
            for node in ast.parse(path.read_text(encoding="utf-8")).body:
                if isinstance(node, ast.Assign):
                    names.append(node.targets[0].id)
                elif isinstance(node, (ast.FunctionDef, ast.ClassDef)):
                    names.append(node.name)
            self.assertEqual(sorted(names), sorted(set(names)))

    def test_no_name_is_a_method_and_a_value(self):
        methods, values = set(), set()
        for path in files():
            for node in nodes(path):
                if isinstance(node, ast.ClassDef):
                    methods |= {part.name for part in node.body if isinstance(part, ast.FunctionDef)}
                if isinstance(node, ast.Attribute) and isinstance(node.ctx, ast.Store):
                    values.add(node.attr)
        self.assertEqual(methods & values, set())

    def test_is_stands_beside_none_true_and_false(self):
        for node in self.each(ast.Compare):
            for sign, right in zip(node.ops, node.comparators):
                if isinstance(sign, (ast.Is, ast.IsNot)):
                    self.assertIsInstance(right, ast.Constant)
                    self.assertIn(repr(right.value), ("None", "True", "False"))


if __name__ == "__main__":
    unittest.main()
