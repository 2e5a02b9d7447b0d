"""The package keeps to the part of Python that it is written in."""

import ast
import builtins
import pathlib
import re
import unittest

PACKAGE = pathlib.Path(__file__).resolve().parent.parent / "waygraph"

OWN_NAMES = set("""len range enumerate zip min max sum abs sorted reversed int str bool list tuple dict set frozenset
    isinstance ord repr any all divmod Exception ValueError TypeError KeyError IndexError LookupError
    ZeroDivisionError ArithmeticError OverflowError RuntimeError NotImplementedError AttributeError
    StopIteration""".split())

OWN_METHODS = set("""append clear copy count endswith extend find get index insert isalnum isalpha isdigit islower
    isspace isupper items join keys ljust lower lstrip partition pop remove replace reverse rfind rjust rpartition
    rsplit rstrip setdefault split splitlines startswith strip update upper values zfill bit_length""".split())

STATEMENTS = (ast.FunctionDef, ast.ClassDef, ast.ImportFrom, ast.Assign, ast.AugAssign, ast.Expr, ast.If, ast.While,
              ast.For, ast.Return, ast.Break, ast.Continue, ast.Pass, ast.Raise, ast.Try)

EXPRESSIONS = (ast.Constant, ast.Name, ast.Attribute, ast.Subscript, ast.Slice, ast.Call, ast.BinOp, ast.UnaryOp,
               ast.BoolOp, ast.Compare, ast.IfExp, ast.List, ast.Tuple, ast.Dict, ast.ListComp, ast.Lambda)

WORDS = re.compile(r"\b(type|typing|typing_extensions|enum|Enum|IntEnum|StrEnum|Flag|IntFlag|Generic|Protocol|ABC"
                   r"|ABCMeta|namedtuple|NamedTuple|TypedDict|TYPE_CHECKING|abstractmethod)\b"
                   r"|dataclass|overload|contextmanager")


def files():
    return sorted(path for path in PACKAGE.rglob("*") if "__pycache__" not in path.parts)


def trees():
    for path in files():
        tree = ast.parse(path.read_text(encoding="utf-8"))
        for found in ast.walk(tree):
            yield path.name, tree, found


def method_names():
    return {inner.name for _, _, found in trees() if isinstance(found, ast.ClassDef)
            for inner in found.body if isinstance(inner, ast.FunctionDef)}


class Form(unittest.TestCase):

    def test_files(self):
        self.assertIn("__init__.py", [path.name for path in files()])
        for path in files():
            self.assertRegex(path.name, r"^(__init__|[a-z][a-z0-9_]*)\.py$")
            self.assertFalse(path.name.startswith("test"))

    def test_signs_and_sizes(self):
        for path in files():
            text = path.read_text(encoding="utf-8")
            self.assertRegex(text, r"\A[ -~\n]*\Z", path.name)
            self.assertIsNone(WORDS.search(text), path.name)
            rows = text.splitlines()
            self.assertLessEqual(len(rows), 400, path.name)
            self.assertLessEqual(max(map(len, rows)), 120, path.name)

    def test_functions(self):
        for name, _, found in trees():
            if isinstance(found, ast.FunctionDef):
                where = f"{name}: {found.name}"
                self.assertLessEqual(found.end_lineno - found.lineno + 1, 40, where)
                self.assertEqual(found.decorator_list, [], where)
                told = found.args
                self.assertFalse(told.vararg or told.kwarg or told.kwonlyargs or told.posonlyargs, where)

    def test_imports(self):
        for name, tree, found in trees():
            if isinstance(found, ast.ImportFrom):
                self.assertIn(found, tree.body, name)
                self.assertEqual(found.level, 0, name)
                self.assertTrue(found.module.startswith("waygraph."), name)
                self.assertTrue((PACKAGE / (found.module.split(".")[1] + ".py")).exists(), name)

    def test_statements_and_expressions(self):
        for name, _, found in trees():
            where = f"{name}:{getattr(found, 'lineno', '')}"
            if isinstance(found, ast.stmt):
                self.assertIsInstance(found, STATEMENTS, where)
            if isinstance(found, ast.expr):
                self.assertIsInstance(found, EXPRESSIONS, where)
            if isinstance(found, ast.Constant):
                self.assertIsInstance(found.value, (int, str, bool, type(None)), where)
            if isinstance(found, ast.Assign):
                self.assertEqual(len(found.targets), 1, where)
            if isinstance(found, ast.ListComp):
                self.assertEqual(len(found.generators), 1, where)
                self.assertLessEqual(len(found.generators[0].ifs), 1, where)
            if isinstance(found, (ast.For, ast.While)):
                self.assertEqual(found.orelse, [], where)
            if isinstance(found, ast.BinOp):
                self.assertNotIsInstance(found.op, (ast.Div, ast.MatMult), where)
            if isinstance(found, ast.Compare) and isinstance(found.ops[0], (ast.Is, ast.IsNot)):
                self.assertIn(ast.unparse(found.comparators[0]), ("None", "True", "False"), where)

    def test_names(self):
        for name, _, found in trees():
            where = f"{name}:{getattr(found, 'lineno', '')}"
            for called in bound_or_read(found):
                self.assertRegex(called, r"^([A-Za-z][A-Za-z0-9_]*|__init__)$", where)
            if isinstance(found, ast.Name) and isinstance(found.ctx, ast.Load) and hasattr(builtins, found.id):
                self.assertIn(found.id, OWN_NAMES, where)
            if isinstance(found, ast.Name) and isinstance(found.ctx, ast.Store):
                self.assertFalse(hasattr(builtins, found.id), where)
            if isinstance(found, ast.arg):
                self.assertFalse(hasattr(builtins, found.arg), where)

    def test_methods(self):
        own = method_names()
        for name, _, found in trees():
            if isinstance(found, ast.Call) and isinstance(found.func, ast.Attribute):
                self.assertIn(found.func.attr, OWN_METHODS | own, f"{name}:{found.lineno}")


def bound_or_read(found):
    if isinstance(found, ast.Name):
        return [found.id]
    if isinstance(found, (ast.FunctionDef, ast.ClassDef)):
        return [found.name]
    if isinstance(found, ast.arg):
        return [found.arg]
    if isinstance(found, ast.Attribute):
        return [found.attr]
    return []


if __name__ == "__main__":
    unittest.main()
