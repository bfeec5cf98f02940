import ast
import contextlib
import inspect
import io
import re
import unittest
from pathlib import Path

import bychance.claims

PACKAGE = Path(bychance.claims.__file__).parent

STATEMENTS = (
    ast.FunctionDef, ast.Assign, ast.AugAssign, ast.If, ast.While, ast.For, ast.Return,
    ast.Break, ast.Continue, ast.Pass,
)
EXPRESSIONS = (
    ast.Constant, ast.Name, ast.Attribute, ast.Subscript, ast.Slice, ast.Call, ast.BinOp, ast.UnaryOp,
    ast.BoolOp, ast.Compare, ast.IfExp, ast.List, ast.Tuple, ast.Dict, ast.ListComp,
)
OWN_OF_PYTHON = (
    "len range enumerate zip min max sum abs sorted reversed int str bool list tuple dict isinstance "
    "any all divmod").split()
METHODS = "append copy count extend get index insert items keys pop values".split()
WORDS_OUT = (
    "type typing typing_extensions enum Enum IntEnum StrEnum Flag IntFlag Generic Protocol ABC ABCMeta "
    "namedtuple NamedTuple TypedDict TYPE_CHECKING abstractmethod").split()


def sources():
    return [(path, path.read_text(encoding="utf-8")) for path in sorted(PACKAGE.glob("*.py"))]


def is_docstring(tree, node):
    return node is tree.body[0] and isinstance(node, ast.Expr) and isinstance(node.value, ast.Constant)


class Interface(unittest.TestCase):
    def test_names_and_arguments(self):
        expected = {
            "ch_product": ["k", "a", "b", "c", "r"],
            "ch_value": ["n", "code", "x"],
            "ch_degree": ["n", "code"],
            "sc_total": ["n", "code"],
            "sc_each": ["n", "code"],
            "sc_message": ["n", "i", "code", "r"],
            "sc_check": ["n", "total", "code", "rows", "r"],
            "bl_far": ["n", "table"],
            "bl_rejects": ["n", "table"],
        }
        for name, arguments in expected.items():
            function = getattr(bychance.claims, name)
            self.assertEqual(list(inspect.signature(function).parameters), arguments)

    def test_arguments_by_name(self):
        self.assertEqual(bychance.claims.ch_product(k=1, a=[2], b=[3], c=[6], r=[1]), [1])
        self.assertEqual(bychance.claims.ch_value(n=1, code=[0, 0, 0, 0], x=[4]), [4])
        self.assertEqual(bychance.claims.ch_degree(n=1, code=[0, 0, 0, 0]), [1])
        self.assertEqual(bychance.claims.sc_total(n=1, code=[0, 0, 0, 0]), [1])
        self.assertEqual(bychance.claims.sc_each(n=1, code=[0, 0, 0, 0]), [1])
        self.assertEqual(
            bychance.claims.sc_message(n=2, i=1, code=[0, 0, 0, 0], r=[4]), [2, 4, 4] + [0] * 14)
        self.assertEqual(
            bychance.claims.sc_check(n=1, total=1, code=[0, 0, 0, 0], rows=[0, 1] + [0] * 14, r=[4]), [1])
        self.assertEqual(bychance.claims.bl_far(n=1, table=[1, 1]), [1])
        self.assertEqual(bychance.claims.bl_rejects(n=1, table=[1, 1]), [4])

    def test_prints_nothing(self):
        out = io.StringIO()
        with contextlib.redirect_stdout(out), contextlib.redirect_stderr(out):
            bychance.claims.ch_product(1, [2], [3], [6], [1])
            bychance.claims.ch_product(0, [], [], [], [])
            bychance.claims.ch_value(1, [0, 0, 0, 0], [4])
            bychance.claims.ch_value(1, [9, 0, 0, 0], [4])
            bychance.claims.ch_degree(1, [0, 0, 0, 0])
            bychance.claims.ch_degree(0, [9, 0, 0, 0])
            bychance.claims.sc_total(1, [0, 0, 0, 0])
            bychance.claims.sc_total(1, [9, 0, 0, 0])
            bychance.claims.sc_each(1, [0, 0, 0, 0])
            bychance.claims.sc_each(0, [9, 0, 0, 0])
            bychance.claims.sc_message(2, 1, [0, 0, 0, 0], [4])
            bychance.claims.sc_message(2, 2, [0, 0, 0, 0], [])
            bychance.claims.sc_check(1, 1, [0, 0, 0, 0], [0, 1] + [0] * 14, [4])
            bychance.claims.sc_check(1, -1, [0, 0, 0, 0], [0, 1] + [0] * 14, [4])
            bychance.claims.bl_far(1, [1, 1])
            bychance.claims.bl_far(1, [1, 2])
            bychance.claims.bl_rejects(1, [1, 1])
            bychance.claims.bl_rejects(1, [1, 2])
        self.assertEqual(out.getvalue(), "")


class Language(unittest.TestCase):
    """The part of LANGUAGE.md that can be told by looking at the text, as far as this program goes."""

    def test_files(self):
        names = [path.name for path in PACKAGE.iterdir() if path.name != "__pycache__"]
        self.assertEqual(sorted(names), ["__init__.py", "claims.py"])

    def test_signs_and_sizes(self):
        for path, text in sources():
            self.assertTrue(all(sign == "\n" or " " <= sign <= "~" for sign in text), path)
            lines = text.split("\n")
            self.assertLessEqual(len(lines), 400, path)
            self.assertLessEqual(max(len(line) for line in lines), 120, path)
            for node in ast.walk(ast.parse(text)):
                if isinstance(node, ast.FunctionDef):
                    self.assertLessEqual(node.end_lineno - node.lineno + 1, 40, node.name)

    def test_words_that_stand_nowhere(self):
        for path, text in sources():
            for word in re.findall(r"\w+", text):
                self.assertNotIn(word, WORDS_OUT, path)
                self.assertIsNone(re.search("dataclass|overload|contextmanager", word), path)

    def test_statements(self):
        for path, text in sources():
            tree = ast.parse(text)
            for node in ast.walk(tree):
                if not isinstance(node, ast.stmt) or is_docstring(tree, node):
                    continue
                where = f"{path}:{node.lineno}"
                if isinstance(node, ast.Expr):
                    self.assertIsInstance(node.value, ast.Call, where)
                    continue
                self.assertIsInstance(node, STATEMENTS, where)
                if isinstance(node, ast.Assign):
                    self.assertEqual(len(node.targets), 1, where)
                    self.assertNotIsInstance(node.targets[0], (ast.Tuple, ast.List), where)
                if isinstance(node, (ast.For, ast.While)):
                    self.assertEqual(node.orelse, [], where)

    def test_the_top_of_a_file(self):
        for path, text in sources():
            bound = []
            for node in ast.parse(text).body[1:]:
                where = f"{path}:{node.lineno}"
                self.assertIsInstance(node, (ast.FunctionDef, ast.Assign), where)
                if isinstance(node, ast.Assign):
                    self.assertIsInstance(ast.literal_eval(node.value), (int, str), where)
                    bound.append(node.targets[0].id)
                else:
                    bound.append(node.name)
            self.assertEqual(len(bound), len(set(bound)), path)

    def test_expressions(self):
        for path, text in sources():
            for node in ast.walk(ast.parse(text)):
                if not isinstance(node, ast.expr):
                    continue
                where = f"{path}:{node.lineno}"
                self.assertIsInstance(node, EXPRESSIONS, where)
                if isinstance(node, ast.Constant):
                    self.assertIsInstance(node.value, (int, str, type(None)), where)
                if isinstance(node, ast.BinOp):
                    self.assertNotIsInstance(node.op, (ast.Div, ast.Pow, ast.MatMult), where)
                if isinstance(node, ast.Attribute):
                    self.assertIn(node.attr, METHODS, where)
                if isinstance(node, ast.ListComp):
                    self.assertEqual(len(node.generators), 1, where)
                    self.assertLessEqual(len(node.generators[0].ifs), 1, where)

    def test_names(self):
        for path, text in sources():
            bound = set()
            used = set()
            for node in ast.walk(ast.parse(text)):
                if isinstance(node, ast.FunctionDef):
                    bound.add(node.name)
                    self.assertEqual(node.decorator_list, [], node.name)
                    self.assertIsNone(node.args.vararg or node.args.kwarg, node.name)
                    self.assertEqual(node.args.kwonlyargs + node.args.posonlyargs, [], node.name)
                elif isinstance(node, ast.arg):
                    bound.add(node.arg)
                elif isinstance(node, ast.Name):
                    (used if isinstance(node.ctx, ast.Load) else bound).add(node.id)
            for name in bound:
                self.assertRegex(name, r"\A[A-Za-z][A-Za-z0-9_]*\Z", path)
                self.assertFalse(hasattr(__import__("builtins"), name), name)
            self.assertEqual(used - bound - set(OWN_OF_PYTHON), set(), path)


if __name__ == "__main__":
    unittest.main()
