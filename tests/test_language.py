"""The package keeps to the small part of Python that it is written in, as far as that is easily seen."""

import ast
import builtins
import pathlib
import re
import unittest

PACKAGE = pathlib.Path(__file__).resolve().parent.parent / "looseshapes"

STATEMENTS = (
    ast.Assign, ast.AugAssign, ast.If, ast.While, ast.For, ast.Return, ast.Break, ast.Continue, ast.Pass, ast.Raise,
    ast.Try, ast.Expr, ast.FunctionDef, ast.ClassDef, ast.ImportFrom,
)
BANNED_EXPRESSIONS = (
    ast.GeneratorExp, ast.SetComp, ast.DictComp, ast.Set, ast.NamedExpr, ast.Starred, ast.Yield, ast.YieldFrom,
    ast.Await, ast.Div, ast.MatMult, ast.Pow,
)
BUILTINS = set(
    "len range enumerate zip min max sum abs sorted reversed int str bool list tuple dict set frozenset isinstance ord "
    "repr any all divmod Exception ValueError TypeError KeyError IndexError LookupError ZeroDivisionError "
    "ArithmeticError OverflowError RuntimeError NotImplementedError StopIteration".split()
)
METHODS = set(
    "append clear copy count endswith extend find get index insert isalnum isalpha isdigit islower isspace isupper "
    "items join keys ljust lower lstrip partition pop remove replace reverse rfind rjust rpartition rsplit rstrip "
    "setdefault split splitlines startswith strip update upper values zfill bit_length".split()
)
WORDS = re.compile(
    r"\b(type|typing|typing_extensions|enum|Enum|IntEnum|StrEnum|Flag|IntFlag|Generic|Protocol|ABC|ABCMeta|namedtuple"
    r"|NamedTuple|TypedDict|TYPE_CHECKING|abstractmethod)\b|dataclass|overload|contextmanager"
)


def sources():
    return sorted(PACKAGE.glob("**/*.py"))


def walk(path):
    return ast.walk(ast.parse(path.read_text()))


class LanguageTest(unittest.TestCase):
    def test_files(self):
        names = [path.name for path in PACKAGE.iterdir() if path.name != "__pycache__"]
        self.assertIn("__init__.py", names)
        for name in names:
            self.assertRegex(name, r"^[a-z0-9_]+\.py$")
            self.assertNotIn(name[:-3], dir(builtins))

    def test_rows_and_signs(self):
        for path in sources():
            rows = path.read_text().split("\n")
            self.assertLessEqual(len(rows), 400, path)
            for number, line in enumerate(rows, start=1):
                self.assertLessEqual(len(line), 120, (path, number))
                self.assertRegex(line, r"^[ -~]*$", (path, number))
                self.assertIsNone(WORDS.search(line), (path, number))

    def test_statements_and_expressions(self):
        for path in sources():
            for node in walk(path):
                where = (path.name, getattr(node, "lineno", 0))
                if isinstance(node, ast.stmt):
                    self.assertIsInstance(node, STATEMENTS, where)
                self.assertNotIsInstance(node, BANNED_EXPRESSIONS, where)
                if isinstance(node, ast.Assign):
                    self.assertEqual(len(node.targets), 1, where)
                if isinstance(node, ast.ListComp):
                    self.assertTrue(len(node.generators) == 1 and len(node.generators[0].ifs) <= 1, where)
                if isinstance(node, (ast.For, ast.While)):
                    self.assertEqual(node.orelse, [], where)
                if isinstance(node, ast.Compare) and any(isinstance(sign, (ast.Is, ast.IsNot)) for sign in node.ops):
                    sides = [node.left] + node.comparators
                    plain = [side for side in sides if isinstance(side, ast.Constant) and side.value in (None, True, False)]
                    self.assertTrue(len(sides) == 2 and plain, where)
                if isinstance(node, ast.Constant):
                    self.assertNotIsInstance(node.value, (float, bytes, complex), where)
                    self.assertNotIn("%", str(node.value), where)

    def test_functions(self):
        for path in sources():
            for node in walk(path):
                if isinstance(node, ast.FunctionDef):
                    self.assertLessEqual(node.end_lineno - node.lineno + 1, 40, node.name)
                    plain = node.args
                    self.assertFalse(plain.vararg or plain.kwarg or plain.kwonlyargs or plain.posonlyargs, node.name)
                    self.assertEqual(node.decorator_list, [], node.name)

    def test_imports_come_from_the_file_that_defines_the_name(self):
        for path in sources():
            for node in walk(path):
                if isinstance(node, ast.ImportFrom):
                    self.assertEqual(node.level, 0)
                    package, _, module = node.module.partition(".")
                    self.assertEqual(package, "looseshapes")
                    top = ast.parse((PACKAGE / f"{module}.py").read_text()).body
                    defined = {item.name for item in top if isinstance(item, (ast.FunctionDef, ast.ClassDef))}
                    defined |= {item.targets[0].id for item in top if isinstance(item, ast.Assign)}
                    self.assertLessEqual({alias.name for alias in node.names}, defined, path)

    def test_names(self):
        for path in sources():
            nodes = list(walk(path))
            imported = {alias.name for node in nodes if isinstance(node, ast.ImportFrom) for alias in node.names}
            classes = {node.name for node in nodes if isinstance(node, ast.ClassDef)}
            bound = {node.id for node in nodes if isinstance(node, ast.Name) and isinstance(node.ctx, ast.Store)}
            bound |= {node.arg for node in nodes if isinstance(node, ast.arg)}
            self.assertEqual(bound & (imported | classes | set(dir(builtins))), set(), path)
            for node in nodes:
                if isinstance(node, ast.Name):
                    self.assertFalse(node.id.startswith("_"), (path, node.id))
                    if node.id in dir(builtins):
                        self.assertIn(node.id, BUILTINS, (path, node.lineno))

    def test_methods(self):
        own = set()
        for path in sources():
            for node in walk(path):
                if isinstance(node, ast.ClassDef):
                    own |= {item.name for item in node.body if isinstance(item, ast.FunctionDef)}
        for path in sources():
            for node in walk(path):
                if isinstance(node, ast.Call) and isinstance(node.func, ast.Attribute):
                    self.assertIn(node.func.attr, METHODS | own, (path, node.lineno))


if __name__ == "__main__":
    unittest.main()
