"""What can be seen of the package's own files: no clock, chance or files, and the small part of Python."""

import ast
import builtins
import pathlib
import re
import unittest

FOLDER = pathlib.Path(__file__).resolve().parent.parent / "regpress"
FILES = sorted(FOLDER.rglob("*.py"))

OWN_NAMES = set(
    "len range enumerate zip min max sum abs sorted reversed int str bool list tuple dict set frozenset isinstance"
    " ord repr any all divmod Exception ValueError TypeError KeyError IndexError LookupError ZeroDivisionError"
    " ArithmeticError OverflowError RuntimeError NotImplementedError AttributeError StopIteration".split()
)
METHODS = set(
    "append clear copy count endswith extend find get index insert isalnum isalpha isdigit islower isspace isupper"
    " items join keys ljust lower lstrip partition pop remove replace reverse rfind rjust rpartition rsplit rstrip"
    " setdefault split splitlines startswith strip update upper values zfill bit_length".split()
)
NODES = (
    ast.Module, ast.ImportFrom, ast.alias, ast.FunctionDef, ast.ClassDef, ast.arguments, ast.arg, ast.Lambda,
    ast.Assign, ast.AugAssign, ast.If, ast.While, ast.For, ast.Return, ast.Break, ast.Continue, ast.Pass, ast.Raise,
    ast.Try, ast.ExceptHandler, ast.Expr, ast.Call, ast.keyword, ast.Attribute, ast.Subscript, ast.Slice, ast.Name,
    ast.Constant, ast.List, ast.Tuple, ast.Dict, ast.ListComp, ast.comprehension, ast.JoinedStr,
    ast.FormattedValue, ast.BinOp, ast.UnaryOp, ast.BoolOp, ast.Compare, ast.IfExp, ast.expr_context,
    ast.operator, ast.unaryop, ast.boolop, ast.cmpop,
)
WORDS_NOT_USED = (
    r"\b(type|typing|typing_extensions|enum|Enum|IntEnum|StrEnum|Flag|IntFlag|Generic|Protocol|ABC|ABCMeta|namedtuple"
    r"|NamedTuple|TypedDict|TYPE_CHECKING|abstractmethod)\b|dataclass|overload|contextmanager"
)
NAMES_NOT_USED = set(
    "register mro elements open input version_info with_traceback add_note attrgetter breakpoint builtins compile"
    " copyright credits delattr dir eval exec exit gc getattr globals hasattr help id importlib license locals"
    " methodcaller os quit setattr super type vars sys format format_map".split()
)


def nodes(kinds):
    for file in FILES:
        for node in ast.walk(ast.parse(file.read_text(encoding="utf-8"))):
            if isinstance(node, kinds):
                yield file.name, node


def bound_names(node):
    if isinstance(node, ast.Name):
        return [] if isinstance(node.ctx, ast.Load) else [node.id]
    return [node.arg] if isinstance(node, ast.arg) else [node.name]


class TestLanguage(unittest.TestCase):
    def test_only_python_files_lie_in_the_package(self):
        self.assertTrue((FOLDER / "__init__.py").is_file())
        for path in FOLDER.rglob("*"):
            if "__pycache__" not in path.parts:
                with self.subTest(path=path.name):
                    self.assertRegex(path.name, r"^(__init__|__main__|[a-z][a-z0-9_]*)\.py$")

    def test_signs_and_sizes(self):
        for file in FILES:
            text = file.read_text(encoding="utf-8")
            rows = text.split("\n")
            with self.subTest(file=file.name):
                self.assertIsNone(re.search(r"[^ -~\n]", text))
                self.assertIsNone(re.search(WORDS_NOT_USED, text))
                self.assertLessEqual(len(rows), 400)
                self.assertLessEqual(max(len(row) for row in rows), 120)

    def test_functions_are_small_and_plain(self):
        for file, node in nodes(ast.FunctionDef):
            with self.subTest(file=file, function=node.name):
                self.assertLessEqual(node.end_lineno - node.lineno + 1, 40)
                self.assertEqual(node.decorator_list, [])
                self.assertIsNone(node.args.vararg or node.args.kwarg)
                self.assertEqual(node.args.kwonlyargs + node.args.posonlyargs, [])

    def test_only_the_small_part_of_python(self):
        for file, node in nodes(ast.AST):
            with self.subTest(file=file, node=ast.dump(node)[:80]):
                self.assertIsInstance(node, NODES)
                self.assertNotIsInstance(node, (ast.Div, ast.MatMult, ast.Starred))
                if isinstance(node, ast.Constant):
                    self.assertNotIsInstance(node.value, (float, complex, bytes))
                if isinstance(node, ast.Assign):
                    self.assertEqual(len(node.targets), 1)
                if isinstance(node, (ast.For, ast.While)):
                    self.assertEqual(node.orelse, [])

    def test_imports_are_of_the_package_alone(self):
        for file, node in nodes((ast.Import, ast.ImportFrom)):
            with self.subTest(file=file, line=node.lineno):
                self.assertIsInstance(node, ast.ImportFrom)
                self.assertEqual(node.level, 0)
                self.assertTrue(node.module.startswith("regpress."))
                self.assertNotIn("*", [alias.name for alias in node.names])

    def test_names(self):
        everything = set(dir(builtins))
        for file, node in nodes((ast.Name, ast.arg, ast.FunctionDef, ast.ClassDef)):
            name = bound_names(node)
            with self.subTest(file=file, line=node.lineno, name=name):
                if name and name != ["__init__"]:
                    self.assertRegex(name[0], r"^[A-Za-z][A-Za-z0-9_]*$")
                    self.assertNotIn(name[0], everything)
                    self.assertNotIn(name[0], NAMES_NOT_USED)
                if isinstance(node, ast.Name) and isinstance(node.ctx, ast.Load):
                    self.assertNotIn(node.id, NAMES_NOT_USED)
                    self.assertTrue(node.id in OWN_NAMES or node.id not in everything)

    def test_methods(self):
        own = {node.name for file, node in nodes(ast.FunctionDef)}
        for file, node in nodes(ast.Call):
            if isinstance(node.func, ast.Attribute):
                with self.subTest(file=file, line=node.lineno, method=node.func.attr):
                    self.assertIn(node.func.attr, METHODS | own)
                    self.assertNotIn(node.func.attr, NAMES_NOT_USED)


if __name__ == "__main__":
    unittest.main()
