"""The rules of the language that a walk through the package's files can see."""

import ast
import builtins
import pathlib
import re
import unittest

PACKAGE = pathlib.Path(__file__).resolve().parent.parent / "coarsekept"
FILES = sorted(PACKAGE.rglob("*.py"))

NODES = """Module Expr Constant ImportFrom alias FunctionDef arguments arg ClassDef Return Assign AugAssign Name Load Store
If While For Break Continue Pass Raise Try ExceptHandler Call keyword Attribute Subscript Slice BinOp Add Sub Mult
FloorDiv Mod Pow BitAnd BitOr BitXor LShift RShift UnaryOp USub Not Invert Compare Eq NotEq Lt LtE Gt GtE In NotIn Is
IsNot BoolOp And Or IfExp List Tuple Dict ListComp comprehension Lambda JoinedStr FormattedValue""".split()

BUILT_IN = """len range enumerate zip min max sum abs sorted reversed int str bool list tuple dict set frozenset isinstance
ord repr any all divmod Exception ValueError TypeError KeyError IndexError LookupError ZeroDivisionError ArithmeticError
OverflowError RuntimeError NotImplementedError AttributeError StopIteration""".split()

WORDS_OUT = """type typing typing_extensions enum Enum IntEnum StrEnum Flag IntFlag Generic Protocol ABC ABCMeta namedtuple
NamedTuple TypedDict TYPE_CHECKING abstractmethod""".split()


def trees():
    return [(path, ast.parse(path.read_text(encoding="utf-8"))) for path in FILES]


def walked(kind):
    return [(path, node) for path, tree in trees() for node in ast.walk(tree) if isinstance(node, kind)]


class Language(unittest.TestCase):
    def test_files(self):
        self.assertIn(PACKAGE / "house.py", FILES)
        self.assertIn(PACKAGE / "__init__.py", FILES)
        for path in PACKAGE.rglob("*"):
            if "__pycache__" not in path.parts:
                self.assertEqual(path.suffix, ".py", path)
                self.assertRegex(path.stem, r"^([a-z][a-z0-9_]*|__init__)$")

    def test_signs_words_and_size(self):
        for path in FILES:
            text = path.read_text(encoding="utf-8")
            self.assertRegex(text, r"\A[ -~\n]*\Z", path)
            rows = text.split("\n")
            self.assertLessEqual(len(rows), 400, path)
            self.assertLessEqual(max(len(row) for row in rows), 120, path)
            for word in re.findall(r"\w+", text):
                self.assertNotIn(word, WORDS_OUT, path)
                self.assertNotRegex(word, "dataclass|overload|contextmanager")

    def test_functions(self):
        for path, node in walked(ast.FunctionDef):
            self.assertLessEqual(node.end_lineno - node.lineno + 1, 40, (path, node.name))
            self.assertEqual(node.decorator_list, [])
            self.assertEqual((node.args.vararg, node.args.kwarg, node.args.kwonlyargs), (None, None, []))

    def test_statements_and_expressions(self):
        for path, node in walked(ast.AST):
            self.assertIn(type(node).__name__, NODES, (path, getattr(node, "lineno", 0)))
        for path, node in walked((ast.For, ast.While)):
            self.assertEqual(node.orelse, [], path)
        for path, node in walked(ast.Assign):
            self.assertEqual(len(node.targets), 1, path)
        for path, node in walked(ast.Constant):
            self.assertIn(type(node.value), (int, str, bool, type(None)), path)

    def test_imports(self):
        for path, node in walked(ast.ImportFrom):
            self.assertEqual(node.level, 0, path)
            self.assertTrue(node.module.startswith("coarsekept."), path)
            self.assertNotIn("*", [name.name for name in node.names])

    def test_names(self):
        for path, tree in trees():
            bound = set(BUILT_IN)
            for node in ast.walk(tree):
                if isinstance(node, (ast.FunctionDef, ast.ClassDef)):
                    bound.add(node.name)
                elif isinstance(node, ast.alias):
                    bound.add(node.name)
                elif isinstance(node, ast.arg):
                    bound.add(node.arg)
                elif isinstance(node, ast.Name) and isinstance(node.ctx, ast.Store):
                    bound.add(node.id)
            for node in ast.walk(tree):
                if isinstance(node, ast.Name):
                    self.assertIn(node.id, bound, path)
                    self.assertFalse(node.id.startswith("_"), path)
                    if isinstance(node.ctx, ast.Store):
                        self.assertNotIn(node.id, dir(builtins), path)
                if isinstance(node, ast.Attribute):
                    self.assertFalse(node.attr.startswith("_"), path)

    def test_no_name_is_a_method_and_a_value(self):
        methods = {item.name for path, node in walked(ast.ClassDef) for item in node.body
                   if isinstance(item, ast.FunctionDef)}
        values = {node.attr for path, node in walked(ast.Attribute) if isinstance(node.ctx, ast.Store)}
        self.assertEqual(methods & values, set())


if __name__ == "__main__":
    unittest.main()
