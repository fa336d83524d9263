"""The package keeps to the part of Python it is written in: those rules that can be seen in its text."""

import ast
import builtins
import pathlib
import re
import unittest

import lampcell

FOLDER = pathlib.Path(lampcell.__file__).parent

STATEMENTS = (ast.Assign, ast.AugAssign, ast.If, ast.While, ast.For, ast.Return, ast.Break, ast.Continue, ast.Pass,
              ast.Raise, ast.Try, ast.Expr, ast.FunctionDef, ast.ClassDef, ast.ImportFrom)
EXPRESSIONS = (ast.Constant, ast.List, ast.Tuple, ast.Dict, ast.BinOp, ast.UnaryOp, ast.Compare, ast.BoolOp, ast.IfExp,
               ast.Call, ast.Attribute, ast.Subscript, ast.Slice, ast.ListComp, ast.Name, ast.Lambda, ast.JoinedStr,
               ast.FormattedValue)
OWN_NAMES = """len range enumerate zip min max sum abs sorted reversed int str bool list tuple dict set frozenset
isinstance ord repr any all divmod Exception ValueError TypeError KeyError IndexError LookupError ZeroDivisionError
ArithmeticError OverflowError RuntimeError NotImplementedError AttributeError StopIteration""".split()
METHODS = """append clear copy count endswith extend find get index insert isalnum isalpha isdigit islower isspace
isupper items join keys ljust lower lstrip partition pop remove replace reverse rfind rjust rpartition rsplit rstrip
setdefault split splitlines startswith strip update upper values zfill bit_length""".split()
WORDS = """type typing typing_extensions enum Enum IntEnum StrEnum Flag IntFlag Generic Protocol ABC ABCMeta namedtuple
NamedTuple TypedDict TYPE_CHECKING abstractmethod""".split()
WITHIN_WORDS = ("dataclass", "overload", "contextmanager")


def files():
    return sorted(path for path in FOLDER.rglob("*") if "__pycache__" not in path.parts)


def trees():
    return [(path.name, ast.parse(path.read_text("utf-8"))) for path in files()]


def nodes(kind):
    return [(name, node) for name, tree in trees() for node in ast.walk(tree) if isinstance(node, kind)]


def place(name, node):
    return f"{name}, line {node.lineno}"


class Language(unittest.TestCase):
    def test_files(self):
        names = [path.name for path in files()]
        self.assertEqual([name for name in names if not re.fullmatch(r"[a-z0-9_]+\.py", name)], [])
        self.assertIn("__init__.py", names)

    def test_sizes_and_signs(self):
        for path in files():
            text = path.read_text("utf-8")
            self.assertLessEqual(len(text.split("\n")), 400, path)
            self.assertLessEqual(max(len(row) for row in text.split("\n")), 120, path)
            self.assertEqual(re.findall(r"[^ -~\n]", text), [], path)

    def test_functions_are_short(self):
        for name, node in nodes(ast.FunctionDef):
            self.assertLessEqual(node.end_lineno - node.lineno + 1, 40, place(name, node))
            self.assertEqual(node.decorator_list, [], place(name, node))
            given = node.args
            self.assertEqual((given.vararg, given.kwarg, given.kwonlyargs), (None, None, []), place(name, node))

    def test_statements_and_expressions(self):
        for name, node in nodes(ast.stmt):
            self.assertIsInstance(node, STATEMENTS, place(name, node))
            self.assertEqual(getattr(node, "finalbody", []), [], place(name, node))
        for name, node in nodes(ast.expr):
            self.assertIsInstance(node, EXPRESSIONS, place(name, node))
        for name, node in nodes((ast.For, ast.While)):
            self.assertEqual(node.orelse, [], place(name, node))
        for name, node in nodes(ast.Assign):
            self.assertEqual(len(node.targets), 1, place(name, node))

    def test_values(self):
        for name, node in nodes(ast.Constant):
            self.assertIn(type(node.value), (int, str, bool, type(None)), place(name, node))
        self.assertEqual(nodes(ast.Div), [])

    def test_imports(self):
        for name, node in nodes(ast.ImportFrom):
            self.assertEqual(node.level, 0, place(name, node))
            self.assertTrue(node.module.startswith("lampcell."), place(name, node))
            self.assertNotIn("*", [one.name for one in node.names], place(name, node))

    def test_names(self):
        others = [name for name in dir(builtins) if name not in OWN_NAMES]
        for name, node in nodes(ast.Name):
            self.assertNotIn(node.id, others, place(name, node))
            self.assertFalse(node.id.startswith("_"), place(name, node))
            if isinstance(node.ctx, ast.Store):
                self.assertNotIn(node.id, dir(builtins), place(name, node))
        for name, node in nodes(ast.arg):
            self.assertNotIn(node.arg, dir(builtins), place(name, node))

    def test_methods_and_values(self):
        taken = [name for kind in (str, int, list, tuple, dict, set, bytes) for name in dir(kind)]
        for name, node in nodes(ast.Attribute):
            if node.attr in taken:
                self.assertIn(node.attr, METHODS, place(name, node))

    def test_words(self):
        for path in files():
            text = path.read_text("utf-8")
            self.assertEqual([word for word in WORDS if re.search(rf"\b{word}\b", text)], [], path)
            self.assertEqual([word for word in WITHIN_WORDS if word in text], [], path)


class NothingIsDone(unittest.TestCase):
    def test_the_top_of_a_file_only_binds(self):
        for name, tree in trees():
            for node in tree.body:
                told = isinstance(node, ast.Expr) and isinstance(node.value, ast.Constant)
                bound = isinstance(node, (ast.ImportFrom, ast.FunctionDef, ast.ClassDef, ast.Assign))
                self.assertTrue(told or bound, place(name, node))


if __name__ == "__main__":
    unittest.main()
