"""The rules of LANGUAGE.md that can be told from the package's files by themselves."""

import ast
import builtins
import pathlib
import re
import unittest

PACKAGE = pathlib.Path(__file__).resolve().parent.parent / "shutoff"
FILES = sorted(PACKAGE.rglob("*.py"))

OWN_NAMES = set(
    "len range enumerate zip min max sum abs sorted reversed int str bool list tuple dict set frozenset isinstance"
    " ord repr any all divmod Exception ValueError TypeError KeyError IndexError LookupError ZeroDivisionError"
    " ArithmeticError OverflowError RuntimeError NotImplementedError AttributeError StopIteration".split()
)
METHODS = set(
    "append clear copy count endswith extend find get index insert isalnum isalpha isdigit islower isspace isupper"
    " items join keys ljust lower lstrip partition pop remove replace reverse rfind rjust rpartition rsplit rstrip"
    " setdefault split splitlines startswith strip update upper values zfill bit_length".split()
)
WORDS = (
    "type|typing|typing_extensions|enum|Enum|IntEnum|StrEnum|Flag|IntFlag|Generic|Protocol|ABC|ABCMeta|namedtuple"
    "|NamedTuple|TypedDict|TYPE_CHECKING|abstractmethod"
)
LEFT_OUT = (
    ast.With, ast.Match, ast.Delete, ast.Global, ast.Nonlocal, ast.Assert, ast.Yield, ast.YieldFrom, ast.Await,
    ast.AsyncFor, ast.AsyncWith, ast.AsyncFunctionDef, ast.SetComp, ast.DictComp, ast.GeneratorExp, ast.NamedExpr,
    ast.Starred, ast.Div, ast.MatMult, ast.Import,
)


def defined_methods(trees):
    classes = [part for tree in trees for part in ast.walk(tree) if isinstance(part, ast.ClassDef)]
    return {part.name for found in classes for part in found.body if isinstance(part, ast.FunctionDef)}


def given_values(trees):
    parts = [part for tree in trees for part in ast.walk(tree)]
    return {part.attr for part in parts if isinstance(part, ast.Attribute) and isinstance(part.ctx, ast.Store)}


class LanguageTest(unittest.TestCase):
    def setUp(self):
        self.texts = {path: path.read_text(encoding="utf-8") for path in FILES}
        self.trees = {path: ast.parse(text) for path, text in self.texts.items()}

    def parts(self, kinds):
        for path, tree in self.trees.items():
            for part in ast.walk(tree):
                if isinstance(part, kinds):
                    yield f"{path.name}:{getattr(part, 'lineno', 0)}", part

    def test_only_plain_files(self):
        lying = [path for path in PACKAGE.rglob("*") if "__pycache__" not in path.parts]
        self.assertIn(PACKAGE / "__init__.py", lying)
        for path in lying:
            self.assertRegex(path.name, r"^[a-z0-9_]+\.py$")

    def test_signs_and_sizes(self):
        for path, text in self.texts.items():
            self.assertRegex(text, r"\A[ -~\n]*\Z", path)
            rows = text.split("\n")
            self.assertLessEqual(len(rows), 400, path)
            self.assertLessEqual(max(len(row) for row in rows), 120, path)
            self.assertIsNone(re.search(rf"\b({WORDS})\b|dataclass|overload|contextmanager", text), path)
        for place, part in self.parts(ast.FunctionDef):
            self.assertLessEqual(part.end_lineno - part.lineno + 1, 40, place)

    def test_imports_only_its_own(self):
        for place, part in self.parts(ast.ImportFrom):
            self.assertEqual(part.level, 0, place)
            self.assertTrue(part.module.startswith("shutoff."), place)
            source = PACKAGE.parent / (part.module.replace(".", "/") + ".py")
            defined = [row for row in self.trees[source].body if not isinstance(row, ast.ImportFrom)]
            names = {row.name for row in defined if hasattr(row, "name")}
            names |= {row.targets[0].id for row in defined if isinstance(row, ast.Assign)}
            self.assertLessEqual({name.name for name in part.names}, names, place)

    def test_top_of_each_file(self):
        plain = (ast.Constant, ast.UnaryOp, ast.USub, ast.List, ast.Tuple, ast.Dict, ast.Name, ast.Load)
        for path, tree in self.trees.items():
            functions = set()
            for row in tree.body[1:]:
                self.assertIsInstance(row, (ast.ImportFrom, ast.FunctionDef, ast.ClassDef, ast.Assign), path)
                if isinstance(row, ast.FunctionDef):
                    functions.add(row.name)
                for part in ast.walk(row.value) if isinstance(row, ast.Assign) else []:
                    self.assertIsInstance(part, plain, f"{path.name}:{row.lineno}")
                    self.assertTrue(not isinstance(part, ast.Name) or part.id in functions, f"{path.name}:{row.lineno}")

    def test_nothing_that_is_left_out(self):
        for place, part in self.parts(LEFT_OUT):
            self.fail(f"{place} {type(part).__name__}")
        for place, part in self.parts((ast.For, ast.While, ast.Try)):
            self.assertEqual(getattr(part, "finalbody", []), [], place)
            self.assertTrue(isinstance(part, ast.Try) or part.orelse == [], place)
        for place, part in self.parts(ast.Assign):
            self.assertEqual(len(part.targets), 1, place)

    def test_names(self):
        for place, part in self.parts(ast.Name):
            self.assertFalse(part.id.startswith("_"), place)
            self.assertTrue(part.id in OWN_NAMES or not hasattr(builtins, part.id), f"{place} {part.id}")
            self.assertFalse(part.id in OWN_NAMES and isinstance(part.ctx, ast.Store), f"{place} {part.id}")
        for place, part in self.parts(ast.arg):
            self.assertFalse(part.arg.startswith("_") or hasattr(builtins, part.arg), f"{place} {part.arg}")

    def test_methods_and_values(self):
        methods = defined_methods(self.trees.values())
        values = given_values(self.trees.values())
        self.assertEqual(methods & values, set())
        for place, part in self.parts(ast.Attribute):
            self.assertIn(part.attr, METHODS | methods | values, place)


if __name__ == "__main__":
    unittest.main()
