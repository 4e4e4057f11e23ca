"""The package keeps to its part of Python: those rules of it that are plain to check."""

import ast
import builtins
import pathlib
import re
import unittest

PACKAGE = pathlib.Path(__file__).resolve().parent.parent / "callsetup"
STATEMENTS = (ast.Assign, ast.AugAssign, ast.If, ast.While, ast.For, ast.Return, ast.Break, ast.Continue, ast.Pass,
              ast.Raise, ast.Try, ast.Expr, ast.FunctionDef, ast.ClassDef, ast.ImportFrom)
EXPRESSIONS = (ast.BoolOp, ast.BinOp, ast.UnaryOp, ast.Lambda, ast.IfExp, ast.Dict, ast.Set, ast.ListComp, ast.Compare,
               ast.Call, ast.JoinedStr, ast.FormattedValue, ast.Constant, ast.Attribute, ast.Subscript, ast.Name,
               ast.List, ast.Tuple, ast.Slice)
OWN_NAMES = set(
    "len range enumerate zip min max sum abs sorted reversed int str bool list tuple dict set frozenset isinstance ord "
    "repr any all divmod Exception ValueError TypeError KeyError IndexError LookupError ZeroDivisionError "
    "ArithmeticError OverflowError RuntimeError NotImplementedError AttributeError StopIteration".split())
OWN_METHODS = set(
    "append clear copy count endswith extend find get index insert isalnum isalpha isdigit islower isspace isupper "
    "items join keys ljust lower lstrip partition pop remove replace reverse rfind rjust rpartition rsplit rstrip "
    "setdefault split splitlines startswith strip update upper values zfill bit_length".split())
NOT_USED = set("register mro elements open input version_info with_traceback add_note format format_map".split())
NOWHERE = re.compile(
    r"\b(type|typing|typing_extensions|enum|Enum|IntEnum|StrEnum|Flag|IntFlag|Generic|Protocol|ABC|ABCMeta|namedtuple|"
    r"NamedTuple|TypedDict|TYPE_CHECKING|abstractmethod)\b|dataclass|overload|contextmanager")
PLAIN_NAME = re.compile(r"[A-Za-z][A-Za-z0-9_]*|__init__")


def files():
    return sorted(path for path in PACKAGE.iterdir() if path.name != "__pycache__")


class Language(unittest.TestCase):
    def each_node(self, *kinds):
        for path in files():
            for node in ast.walk(ast.parse(path.read_text("ascii"))):
                if isinstance(node, kinds):
                    with self.subTest(file=path.name, line=getattr(node, "lineno", 0)):
                        yield path, node

    def test_files(self):
        self.assertIn(PACKAGE / "__init__.py", files())
        for path in files():
            self.assertRegex(path.name, r"\A[a-z][a-z0-9_]*\.py\Z|\A__init__\.py\Z")
            self.assertNotIn(path.stem, dir(builtins))

    def test_signs_and_size(self):
        for path in files():
            text = path.read_bytes().decode("ascii")
            self.assertEqual([sign for sign in text if not (" " <= sign <= "~" or sign == "\n")], [], path.name)
            self.assertIsNone(NOWHERE.search(text), path.name)
            lines = text.split("\n")
            self.assertLessEqual(len(lines), 401, path.name)
            self.assertLessEqual(max(map(len, lines)), 120, path.name)

    def test_statements_and_expressions(self):
        for path, node in self.each_node(ast.stmt):
            self.assertIsInstance(node, STATEMENTS)
            if isinstance(node, ast.Assign):
                self.assertEqual(len(node.targets), 1)
                self.assertNotIsInstance(node.targets[0], (ast.Tuple, ast.List))
            if isinstance(node, (ast.While, ast.For)):
                self.assertEqual(node.orelse, [])
            if isinstance(node, ast.Try):
                self.assertEqual(node.finalbody, [])
        for path, node in self.each_node(ast.expr):
            self.assertIsInstance(node, EXPRESSIONS)
            if isinstance(node, ast.Constant):
                self.assertIsInstance(node.value, (int, str, type(None)))
            if isinstance(node, ast.BinOp):
                self.assertNotIsInstance(node.op, (ast.Div, ast.MatMult))

    def test_expressions_by_themselves_are_calls(self):
        for path, node in self.each_node(ast.Expr):
            first_of_file = node.lineno == 1 and isinstance(node.value, ast.Constant)
            self.assertTrue(first_of_file or isinstance(node.value, ast.Call))

    def test_functions(self):
        for path, node in self.each_node(ast.FunctionDef):
            self.assertLessEqual(node.end_lineno - node.lineno + 1, 40)
            self.assertEqual(node.decorator_list, [])
            given = node.args
            self.assertEqual([given.vararg, given.kwarg, given.kwonlyargs, given.posonlyargs], [None, None, [], []])

    def test_imports(self):
        for path, node in self.each_node(ast.ImportFrom):
            self.assertEqual(node.level, 0)
            defining = PACKAGE / (node.module.split(".")[-1] + ".py")
            self.assertEqual(node.module, "callsetup." + defining.stem)
            tops = ast.parse(defining.read_text("ascii")).body
            defined = [top.name for top in tops if isinstance(top, (ast.FunctionDef, ast.ClassDef))]
            defined += [top.targets[0].id for top in tops if isinstance(top, ast.Assign)]
            for name in node.names:
                self.assertIn(name.name, defined)
                self.assertIsNone(name.asname)

    def test_names(self):
        for path, node in self.each_node(ast.Name, ast.arg, ast.FunctionDef, ast.ClassDef, ast.Attribute):
            name = getattr(node, "id", None) or getattr(node, "arg", None) or getattr(node, "name", None) or node.attr
            self.assertIsNotNone(PLAIN_NAME.fullmatch(name), name)
            self.assertNotIn(name, NOT_USED)
            if isinstance(node, ast.Name) and isinstance(node.ctx, ast.Load) and hasattr(builtins, name):
                self.assertIn(name, OWN_NAMES)
            bound = isinstance(node, ast.arg) or isinstance(node, ast.Name) and isinstance(node.ctx, ast.Store)
            self.assertFalse(bound and hasattr(builtins, name), name)

    def test_methods(self):
        own = {node.name for path, node in self.each_node(ast.FunctionDef)}
        stored = {node.attr for path, node in self.each_node(ast.Attribute) if isinstance(node.ctx, ast.Store)}
        self.assertEqual(own & stored, set())
        for path, node in self.each_node(ast.Call):
            self.assertEqual(node.keywords, [])
            if isinstance(node.func, ast.Attribute):
                self.assertIn(node.func.attr, own | OWN_METHODS)


if __name__ == "__main__":
    unittest.main()
