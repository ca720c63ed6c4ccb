"""The form of the package's own files: the rules of LANGUAGE.md that are easy to see."""

import ast
import builtins
import pathlib
import re
import unittest

PACKAGE = pathlib.Path(__file__).resolve().parent.parent / "decidetable"

# L8, less chr (L27) and print, which only __main__.py may use.
ALLOWED_BUILTINS = set("""
    len range enumerate zip min max sum abs sorted reversed int str bool list tuple dict set frozenset isinstance
    ord repr any all divmod Exception ValueError TypeError KeyError IndexError LookupError ZeroDivisionError
    ArithmeticError OverflowError RuntimeError NotImplementedError AttributeError StopIteration
""".split())

# L6, L7: what stands nowhere.
FORBIDDEN_NODES = (
    ast.With, ast.Match, ast.Delete, ast.Global, ast.Nonlocal, ast.Assert, ast.Yield, ast.YieldFrom, ast.Await,
    ast.AsyncFor, ast.AsyncFunctionDef, ast.AsyncWith, ast.Import, ast.SetComp, ast.DictComp, ast.GeneratorExp,
    ast.NamedExpr, ast.Starred, ast.Div,
)

# L25: the methods of Python's own values.
ALLOWED_METHODS = set("""
    append clear copy count endswith extend find get index insert isalnum isalpha isdigit islower isspace isupper
    items join keys ljust lower lstrip partition pop remove replace reverse rfind rjust rpartition rsplit rstrip
    setdefault split splitlines startswith strip update upper values zfill bit_length
""".split())

# L17: words that stand nowhere, remarks and texts too.
FORBIDDEN_WORDS = re.compile(
    r"\b(type|typing|typing_extensions|enum|Enum|IntEnum|StrEnum|Flag|IntFlag|Generic|Protocol|ABC|ABCMeta"
    r"|namedtuple|NamedTuple|TypedDict|TYPE_CHECKING|abstractmethod)\b|dataclass|overload|contextmanager")


def sources():
    return [(path, path.read_text(encoding="utf-8")) for path in sorted(PACKAGE.rglob("*.py"))]


def nodes():
    return [(path, node) for path, text in sources() for node in ast.walk(ast.parse(text))]


def place(path, node):
    return f"{path.name}:{getattr(node, 'lineno', '?')}"


class FormTest(unittest.TestCase):
    def test_only_python_files_lie_in_the_package(self):
        others = [path.name for path in PACKAGE.rglob("*")
                  if path.is_file() and path.suffix != ".py" and path.parent.name != "__pycache__"]
        self.assertEqual(others, [])
        self.assertIn("__init__.py", [path.name for path, text in sources()])

    def test_size(self):
        for path, text in sources():
            lines = text.splitlines()
            self.assertLessEqual(len(lines), 400, path.name)
            self.assertLessEqual(max(len(line) for line in lines), 120, path.name)
        for path, node in nodes():
            if isinstance(node, ast.FunctionDef):
                self.assertLessEqual(node.end_lineno - node.lineno + 1, 40, place(path, node))

    def test_signs_and_words(self):
        for path, text in sources():
            self.assertEqual([sign for sign in text if sign != "\n" and not " " <= sign <= "~"], [], path.name)
            self.assertIsNone(FORBIDDEN_WORDS.search(text), path.name)

    def test_nothing_is_imported_from_outside(self):
        for path, node in nodes():
            if isinstance(node, ast.ImportFrom):
                self.assertEqual((node.level, node.module.split(".")[0]), (0, "decidetable"), place(path, node))

    def test_statements_and_expressions(self):
        for path, node in nodes():
            self.assertNotIsInstance(node, FORBIDDEN_NODES, place(path, node))
            if isinstance(node, (ast.For, ast.While)):
                self.assertEqual(node.orelse, [], place(path, node))
            if isinstance(node, (ast.FunctionDef, ast.ClassDef)):
                self.assertEqual(node.decorator_list, [], place(path, node))
            if isinstance(node, ast.Assign):
                self.assertEqual(len(node.targets), 1, place(path, node))
            if isinstance(node, ast.Constant):
                self.assertNotIsInstance(node.value, (float, complex, bytes), place(path, node))

    def test_names(self):
        for path, node in nodes():
            if isinstance(node, ast.Name) and hasattr(builtins, node.id):
                self.assertIn(node.id, ALLOWED_BUILTINS, place(path, node))
                self.assertIsInstance(node.ctx, ast.Load, place(path, node))
            if isinstance(node, ast.Name):
                self.assertFalse(node.id.startswith("_"), place(path, node))
            if isinstance(node, ast.arg):
                self.assertFalse(node.arg.startswith("_") or hasattr(builtins, node.arg), place(path, node))

    def test_methods_and_values(self):
        methods = {method.name for path, node in nodes() if isinstance(node, ast.ClassDef)
                   for method in node.body if isinstance(method, ast.FunctionDef)}
        for path, node in nodes():
            if isinstance(node, ast.Call) and isinstance(node.func, ast.Attribute):
                self.assertIn(node.func.attr, methods | ALLOWED_METHODS, place(path, node))
            if isinstance(node, ast.Attribute) and isinstance(node.ctx, ast.Store):
                self.assertNotIn(node.attr, methods | ALLOWED_METHODS, place(path, node))


if __name__ == "__main__":
    unittest.main()
