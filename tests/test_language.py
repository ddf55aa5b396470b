"""Holds the package's files to those rules of LANGUAGE.md that are easily read off a file; the others are for readers."""

import ast
import builtins
import pathlib
import re
import unittest

PACKAGE = pathlib.Path(__file__).resolve().parent.parent / "sandglasses"

STATEMENTS = (ast.Assign, ast.AugAssign, ast.If, ast.While, ast.For, ast.Return, ast.Break, ast.Continue, ast.Pass,
              ast.Raise, ast.Try, ast.Expr, ast.FunctionDef, ast.ClassDef, ast.ImportFrom)
EXPRESSIONS = (ast.Constant, ast.List, ast.Tuple, ast.Dict, ast.BinOp, ast.UnaryOp, ast.BoolOp, ast.Compare, ast.IfExp,
               ast.Call, ast.Attribute, ast.Subscript, ast.Slice, ast.ListComp, ast.JoinedStr, ast.FormattedValue,
               ast.Name, ast.Lambda)
BUILT_IN = """len range enumerate zip min max sum abs sorted reversed int str bool list tuple dict set frozenset
    isinstance ord repr any all divmod Exception ValueError TypeError KeyError IndexError LookupError
    ZeroDivisionError ArithmeticError OverflowError RuntimeError NotImplementedError AttributeError
    StopIteration""".split()
METHODS = """append clear copy count endswith extend find get index insert isalnum isalpha isdigit islower isspace
    isupper items join keys ljust lower lstrip partition pop remove replace reverse rfind rjust rpartition rsplit
    rstrip setdefault split splitlines startswith strip update upper values zfill bit_length""".split()
BESIDE_IS = "None True False".split()
SPECIAL_METHODS = "__init__ __eq__ __repr__ __str__ __len__".split()
WORDS = """type typing typing_extensions enum Enum IntEnum StrEnum Flag IntFlag Generic Protocol ABC ABCMeta namedtuple
    NamedTuple TypedDict TYPE_CHECKING abstractmethod""".split()


def package_files():
    return sorted(path for path in PACKAGE.rglob("*") if path.is_file() and "__pycache__" not in path.parts)


def nodes_of(tree, *kinds):
    return [node for node in ast.walk(tree) if isinstance(node, kinds)]


def bound_names(tree):
    names = [node.id for node in nodes_of(tree, ast.Name) if not isinstance(node.ctx, ast.Load)]
    names += [node.arg for node in nodes_of(tree, ast.arg)]
    names += [node.name for node in nodes_of(tree, ast.FunctionDef, ast.ClassDef)]
    names += [node.name for node in nodes_of(tree, ast.ExceptHandler) if node.name]
    return names + [alias.name for node in nodes_of(tree, ast.ImportFrom) for alias in node.names]


class LanguageTest(unittest.TestCase):
    def setUp(self):
        self.texts = {path.name: path.read_bytes().decode("utf-8") for path in package_files()}
        self.trees = {name: ast.parse(text) for name, text in self.texts.items()}

    def each(self, *kinds):
        return [(name, node) for name, tree in self.trees.items() for node in nodes_of(tree, *kinds)]

    def assert_none(self, found):
        self.assertEqual([f"{name}:{node.lineno}" for name, node in found], [])

    def test_files(self):
        self.assertIn("__init__.py", self.texts)
        self.assertIn("table.py", self.texts)
        for path in package_files():
            self.assertEqual(path.parent, PACKAGE)
            self.assertRegex(path.name, r"^(__init__|[a-z][a-z0-9_]*)\.py$")

    def test_signs_and_sizes(self):
        for name, text in self.texts.items():
            self.assertEqual(re.findall(r"[^ -~\n]", text), [], name)
            rows = text.split("\n")
            self.assertLessEqual(len(rows), 400, name)
            self.assertLessEqual(max(len(row) for row in rows), 120, name)
        self.assert_none([(name, node) for name, node in self.each(ast.FunctionDef)
                          if node.end_lineno - node.lineno >= 40])

    def test_words(self):
        for name, text in self.texts.items():
            self.assertEqual([word for word in re.findall(r"\w+", text) if word in WORDS], [], name)
            self.assertNotRegex(text, "dataclass|overload|contextmanager")

    def test_imports(self):
        own = ["sandglasses." + name[:-3] for name in self.texts]
        self.assert_none([(name, node) for name, node in self.each(ast.ImportFrom)
                          if node.level or node.module not in own or any(alias.asname for alias in node.names)])

    def test_statements_and_expressions(self):
        self.assert_none([(name, node) for name, node in self.each(ast.stmt) if not isinstance(node, STATEMENTS)])
        self.assert_none([(name, node) for name, node in self.each(ast.expr) if not isinstance(node, EXPRESSIONS)])
        self.assert_none([(name, node) for name, node in self.each(ast.For, ast.While) if node.orelse])
        self.assert_none([(name, node) for name, node in self.each(ast.Assign) if len(node.targets) > 1])
        self.assert_none([(name, node) for name, node in self.each(ast.BinOp)
                          if isinstance(node.op, (ast.Div, ast.MatMult))])
        self.assert_none([(name, node) for name, node in self.each(ast.Constant)
                          if isinstance(node.value, (float, complex, bytes))])
        self.assert_none([(name, node) for name, node in self.each(ast.ListComp)
                          if len(node.generators) > 1 or len(node.generators[0].ifs) > 1])

    def test_is_and_powers(self):
        self.assert_none([(name, node) for name, node in self.each(ast.Compare)
                          for sign, right in zip(node.ops, node.comparators)
                          if isinstance(sign, (ast.Is, ast.IsNot)) and ast.unparse(right) not in BESIDE_IS])
        self.assert_none([(name, node) for name, node in self.each(ast.BinOp) if isinstance(node.op, ast.Pow)
                          and getattr(node.right, "value", None) not in range(65)])

    def test_functions_and_classes(self):
        self.assert_none([(name, node) for name, node in self.each(ast.FunctionDef, ast.ClassDef)
                          if node.decorator_list])
        self.assert_none([(name, node) for name, node in self.each(ast.FunctionDef, ast.Lambda)
                          if node.args.vararg or node.args.kwarg or node.args.kwonlyargs or node.args.posonlyargs])
        self.assert_none([(name, node) for name, node in self.each(ast.ClassDef)
                          if len(node.bases) > 1 or node.keywords])

    def test_names(self):
        for name, tree in self.trees.items():
            bound = bound_names(tree)
            self.assertEqual([word for word in bound if word in dir(builtins) or word in BUILT_IN], [], name)
            self.assertEqual([word for word in bound if word.startswith("_") and word not in SPECIAL_METHODS], [], name)
            self.assert_none([(name, node) for node in nodes_of(tree, ast.Name)
                              if node.id not in bound and node.id not in BUILT_IN])

    def test_methods(self):
        own = [node.name for name, node in self.each(ast.FunctionDef)]
        self.assert_none([(name, node) for name, node in self.each(ast.Call) if isinstance(node.func, ast.Attribute)
                          and node.func.attr not in METHODS and node.func.attr not in own])


if __name__ == "__main__":
    unittest.main()
