"""The rules of the language that a walk through the package's files can see."""

import ast
import builtins
import pathlib
import re
import unittest

PACKAGE = pathlib.Path(__file__).resolve().parent.parent / "coarsekept"
FILES = sorted(PACKAGE.rglob("*.py"))

NODES = """Module Expr Constant ImportFrom alias FunctionDef arguments arg ClassDef Return Assign AugAssign Name Load Store
If While For Break Continue Pass Raise Try ExceptHandler Call keyword Attribute Subscript Slice BinOp Add Sub Mult
FloorDiv Mod Pow BitAnd BitOr BitXor LShift RShift UnaryOp USub Not Invert Compare Eq NotEq Lt LtE Gt GtE In NotIn Is
IsNot BoolOp And Or IfExp List Tuple Dict ListComp comprehension Lambda JoinedStr FormattedValue""".split()

BUILT_IN = """len range enumerate zip min max sum abs sorted reversed int str bool list tuple dict set frozenset isinstance
ord repr any all divmod Exception ValueError TypeError KeyError IndexError LookupError ZeroDivisionError ArithmeticError
OverflowError RuntimeError NotImplementedError AttributeError StopIteration""".split()

WORDS_OUT = """type typing typing_extensions enum Enum IntEnum StrEnum Flag IntFlag Generic Protocol ABC ABCMeta namedtuple
NamedTuple TypedDict TYPE_CHECKING abstractmethod""".split()

METHODS = """append clear copy count endswith extend find get index insert isalnum isalpha isdigit islower isspace isupper items
join keys ljust lower lstrip partition pop remove replace reverse rfind rjust rpartition rsplit rstrip setdefault split
splitlines startswith strip update upper values zfill bit_length""".split()

VALUES_OUT = "items keys values pop update append clear extend insert remove reverse setdefault sort args encode format".split()
VALUES_IN = "count index title find get join lower upper split strip copy add".split()

KEYWORDS = {
    "sorted": ("key", "reverse"), "min": ("key", "default"), "max": ("key", "default"), "sum": ("start",),
    "enumerate": ("start",), "zip": ("strict",),
}

WALKED = "zip enumerate reversed range items keys values".split()
WALKERS = "list tuple dict sorted sum any all enumerate zip min max join".split()


def trees():
    return [(path, ast.parse(path.read_text(encoding="utf-8"))) for path in FILES]


def walked(kind):
    return [(path, node) for path, tree in trees() for node in ast.walk(tree) if isinstance(node, kind)]


def called(node):
    """The name that a call is by: the function's, or the method's."""
    return node.func.attr if isinstance(node.func, ast.Attribute) else getattr(node.func, "id", "")


def own_methods():
    return {item.name for path, node in walked(ast.ClassDef) for item in node.body if isinstance(item, ast.FunctionDef)}


class Language(unittest.TestCase):
    def test_files(self):
        self.assertIn(PACKAGE / "house.py", FILES)
        self.assertIn(PACKAGE / "__init__.py", FILES)
        for path in PACKAGE.rglob("*"):
            if "__pycache__" not in path.parts:
                self.assertEqual(path.suffix, ".py", path)
                self.assertRegex(path.stem, r"^([a-z][a-z0-9_]*|__init__)$")

    def test_signs_words_and_size(self):
        for path in FILES:
            text = path.read_text(encoding="utf-8")
            self.assertRegex(text, r"\A[ -~\n]*\Z", path)
            rows = text.split("\n")
            self.assertLessEqual(len(rows), 400, path)
            self.assertLessEqual(max(len(row) for row in rows), 120, path)
            for word in re.findall(r"\w+", text):
                self.assertNotIn(word, WORDS_OUT, path)
                self.assertNotRegex(word, "dataclass|overload|contextmanager")

    def test_functions(self):
        for path, node in walked(ast.FunctionDef):
            self.assertLessEqual(node.end_lineno - node.lineno + 1, 40, (path, node.name))
            self.assertEqual(node.decorator_list, [])
            self.assertEqual((node.args.vararg, node.args.kwarg, node.args.kwonlyargs), (None, None, []))

    def test_statements_and_expressions(self):
        for path, node in walked(ast.AST):
            self.assertIn(type(node).__name__, NODES, (path, getattr(node, "lineno", 0)))
        for path, node in walked((ast.For, ast.While)):
            self.assertEqual(node.orelse, [], path)
        for path, node in walked(ast.Assign):
            self.assertEqual(len(node.targets), 1, path)
        for path, node in walked(ast.Constant):
            self.assertIn(type(node.value), (int, str, bool, type(None)), path)

    def test_imports(self):
        for path, node in walked(ast.ImportFrom):
            self.assertEqual(node.level, 0, path)
            self.assertTrue(node.module.startswith("coarsekept."), path)
            self.assertNotIn("*", [name.name for name in node.names])

    def test_names(self):
        for path, tree in trees():
            bound = set(BUILT_IN)
            for node in ast.walk(tree):
                if isinstance(node, (ast.FunctionDef, ast.ClassDef)):
                    bound.add(node.name)
                elif isinstance(node, ast.alias):
                    bound.add(node.name)
                elif isinstance(node, ast.arg):
                    bound.add(node.arg)
                elif isinstance(node, ast.Name) and isinstance(node.ctx, ast.Store):
                    bound.add(node.id)
            for node in ast.walk(tree):
                if isinstance(node, ast.Name):
                    self.assertIn(node.id, bound, path)
                    self.assertFalse(node.id.startswith("_"), path)
                    if isinstance(node.ctx, ast.Store):
                        self.assertNotIn(node.id, dir(builtins), path)
                if isinstance(node, ast.Attribute):
                    self.assertFalse(node.attr.startswith("_"), path)
                if isinstance(node, ast.arg):
                    self.assertNotIn(node.arg, dir(builtins), path)
                    self.assertFalse(node.arg.startswith("_"), path)

    def test_no_name_is_a_method_and_a_value(self):
        values = {node.attr for path, node in walked(ast.Attribute) if isinstance(node.ctx, ast.Store)}
        self.assertEqual(own_methods() & values, set())

    def test_names_of_methods_and_values(self):
        of_python = {name for kind in (str, int, list, dict, set, bytes) for name in dir(kind)}
        for name in own_methods() - {"__init__", "__eq__", "__repr__", "__str__", "__len__"}:
            self.assertTrue(name not in of_python or name in METHODS + ["add", "discard"], name)
        for path, node in walked(ast.Attribute):
            if isinstance(node.ctx, ast.Store):
                self.assertNotIn(node.attr, VALUES_OUT, path)
                self.assertTrue(node.attr not in of_python or node.attr in VALUES_IN, node.attr)

    def test_calls(self):
        for path, node in walked(ast.Call):
            if isinstance(node.func, ast.Attribute):
                self.assertIn(node.func.attr, METHODS + sorted(own_methods()), path)
            for keyword in node.keywords:
                self.assertIn(keyword.arg, KEYWORDS.get(called(node), ()), (path, node.lineno))

    def test_walked_at_once(self):
        for path, tree in trees():
            walks = set()
            for node in ast.walk(tree):
                if isinstance(node, (ast.For, ast.comprehension)):
                    walks.add(node.iter)
                if isinstance(node, ast.Call) and called(node) in WALKERS:
                    walks.update(node.args[:1] if called(node) != "zip" else node.args)
            for node in ast.walk(tree):
                if isinstance(node, ast.Call) and called(node) in WALKED:
                    self.assertIn(node, walks, (path, node.lineno))

    def test_is_and_powers_and_texts(self):
        for path, node in walked(ast.Compare):
            for operator, right in zip(node.ops, node.comparators):
                if isinstance(operator, (ast.Is, ast.IsNot)):
                    self.assertIn(getattr(right, "value", 0), (None, True, False), (path, node.lineno))
        for path, node in walked(ast.BinOp):
            if isinstance(node.op, ast.Pow):
                self.assertIn(getattr(node.right, "value", None), range(65), (path, node.lineno))
        for path, node in walked(ast.Constant):
            self.assertNotIn("%", str(node.value), (path, node.lineno))

    def test_names_are_drawn_from_the_file_that_defines_them(self):
        defined = {}
        for path, tree in trees():
            names = defined.setdefault("coarsekept." + path.stem, set())
            names.update(node.name for node in tree.body if isinstance(node, (ast.FunctionDef, ast.ClassDef)))
            names.update(node.targets[0].id for node in tree.body if isinstance(node, ast.Assign))
        for path, node in walked(ast.ImportFrom):
            for name in node.names:
                self.assertIn(name.name, defined[node.module], path)
                self.assertIsNone(name.asname, path)


if __name__ == "__main__":
    unittest.main()
