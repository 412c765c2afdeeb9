"""The program's form, as far as it is quickly seen: files, signs, sizes, statements, names."""
import ast
import builtins
import pathlib
import re
import unittest

PACKAGE = pathlib.Path(__file__).resolve().parent.parent / "joinmeet"

PYTHONS_OWN = set("""
len range enumerate zip min max sum abs sorted reversed int str bool list tuple dict set frozenset isinstance ord repr
any all divmod Exception ValueError TypeError KeyError IndexError LookupError ZeroDivisionError ArithmeticError
OverflowError RuntimeError NotImplementedError AttributeError StopIteration
""".split())

NOWHERE = set("""
type typing typing_extensions enum Enum IntEnum StrEnum Flag IntFlag Generic Protocol ABC ABCMeta namedtuple NamedTuple
TypedDict TYPE_CHECKING abstractmethod
""".split())

LEFT_OUT = (
    ast.Import, ast.ImportFrom, ast.With, ast.Match, ast.Delete, ast.Global, ast.Nonlocal, ast.Assert, ast.Yield,
    ast.YieldFrom, ast.AsyncFunctionDef, ast.Await, ast.SetComp, ast.DictComp, ast.GeneratorExp, ast.NamedExpr,
    ast.Starred, ast.Div, ast.AnnAssign,
)


def files():
    return sorted(path for path in PACKAGE.rglob("*") if "__pycache__" not in path.parts)


def nodes():
    for path in files():
        for node in ast.walk(ast.parse(path.read_text("utf-8"))):
            yield path.name, node


class Form(unittest.TestCase):
    def test_files(self):
        self.assertEqual([path.name for path in files()], ["__init__.py", "orders.py"])

    def test_signs_and_sizes(self):
        for path in files():
            text = path.read_bytes().decode("ascii")
            self.assertRegex(text, r"\A[ -~\n]*\Z")
            lines = text.splitlines()
            self.assertLessEqual(len(lines), 400)
            self.assertLessEqual(max(len(line) for line in lines), 120)

    def test_words_that_stand_nowhere(self):
        for path in files():
            words = set(re.findall(r"\w+", path.read_text("ascii")))
            self.assertEqual(words & NOWHERE, set())

    def test_statements(self):
        for name, node in nodes():
            self.assertNotIsInstance(node, LEFT_OUT, f"{name} {getattr(node, 'lineno', '')}")
            if isinstance(node, ast.FunctionDef):
                self.assertLessEqual(node.end_lineno - node.lineno + 1, 40, node.name)
                self.assertEqual(node.decorator_list, [])
            if isinstance(node, (ast.For, ast.While)):
                self.assertEqual(node.orelse, [])
            if isinstance(node, ast.ListComp):
                self.assertEqual(len(node.generators), 1)
                self.assertLessEqual(len(node.generators[0].ifs), 1)
            if isinstance(node, ast.BinOp) and isinstance(node.op, ast.Pow):
                self.assertIsInstance(node.right, ast.Constant)
            if isinstance(node, ast.Constant):
                self.assertNotIsInstance(node.value, (float, complex, bytes))

    def test_names(self):
        own = set(dir(builtins))
        for _, node in nodes():
            if isinstance(node, ast.Name) and node.id in own:
                self.assertIn(node.id, PYTHONS_OWN)
                self.assertIsInstance(node.ctx, ast.Load)
            if isinstance(node, ast.Name):
                self.assertRegex(node.id, r"\A[A-Za-z][A-Za-z0-9_]*\Z")
            if isinstance(node, (ast.FunctionDef, ast.ClassDef)):
                self.assertNotIn(node.name, own)
            if isinstance(node, ast.arg):
                self.assertNotIn(node.arg, own)


if __name__ == "__main__":
    unittest.main()
