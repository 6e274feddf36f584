"""Promise [1]: no clock, no chance, no files; and the part of Python that the package keeps to.

Only the rules that are plain to see in the source are held here.
"""

import ast
import builtins
import pathlib
import re
import unittest

PACKAGE = pathlib.Path(__file__).resolve().parent.parent / "wagebook"

ALLOWED_BUILTINS = set(
    "len range enumerate zip min max sum abs sorted reversed int str bool list tuple dict set frozenset"
    " isinstance ord repr any all divmod Exception ValueError TypeError KeyError IndexError LookupError"
    " ZeroDivisionError ArithmeticError OverflowError RuntimeError NotImplementedError AttributeError"
    " StopIteration".split()
)
ALLOWED_METHODS = set(
    "append clear copy count endswith extend find get index insert isalnum isalpha isdigit islower isspace"
    " isupper items join keys ljust lower lstrip partition pop remove replace reverse rfind rjust rpartition"
    " rsplit rstrip setdefault split splitlines startswith strip update upper values zfill bit_length".split()
)
PYTHONS_OWN = (str, int, list, dict, set, bytes, tuple)
RULED_OUT_NODES = (
    ast.With, ast.Match, ast.Delete, ast.Global, ast.Nonlocal, ast.Assert, ast.Yield, ast.YieldFrom,
    ast.AsyncFunctionDef, ast.Await, ast.SetComp, ast.DictComp, ast.GeneratorExp, ast.NamedExpr,
    ast.Starred, ast.Div, ast.Import,
)
RULED_OUT_WORDS = re.compile(
    r"\b(type|typing|typing_extensions|enum|Enum|IntEnum|StrEnum|Flag|IntFlag|Generic|Protocol|ABC|ABCMeta"
    r"|namedtuple|NamedTuple|TypedDict|TYPE_CHECKING|abstractmethod)\b|dataclass|overload|contextmanager"
)


def sources():
    return sorted(path for path in PACKAGE.rglob("*") if path.is_file() and "__pycache__" not in path.parts)


class LanguageTest(unittest.TestCase):
    def trees(self):
        for path in sources():
            yield path, ast.parse(path.read_text(encoding="utf-8"))

    def test_the_modules_are_there_and_nothing_else_but_python(self):
        names = [path.name for path in sources()]
        for name in ("__init__.py", "errors.py", "bands.py", "tables.py", "person.py", "book.py", "day.py"):
            self.assertIn(name, names)
        for name in names:
            self.assertRegex(name, r"^[a-z0-9_]+\.py$")

    def test_signs_words_and_sizes(self):
        for path in sources():
            text = path.read_text(encoding="utf-8")
            self.assertRegex(text, r"\A[ -~\n]*\Z", path)
            self.assertIsNone(RULED_OUT_WORDS.search(text), path)
            lines = text.split("\n")
            self.assertLessEqual(len(lines), 400, path)
            self.assertLessEqual(max(len(line) for line in lines), 120, path)

    def test_imports_are_the_package_own(self):
        for path, tree in self.trees():
            for node in ast.walk(tree):
                if isinstance(node, ast.ImportFrom):
                    self.assertEqual(node.level, 0, path)
                    self.assertTrue(node.module.startswith("wagebook."), (path, node.module))

    def test_no_statement_or_value_that_is_ruled_out(self):
        for path, tree in self.trees():
            for node in ast.walk(tree):
                self.assertNotIsInstance(node, RULED_OUT_NODES, path)
                if isinstance(node, ast.Constant):
                    self.assertNotIsInstance(node.value, (float, complex, bytes), path)
                if isinstance(node, ast.Assign):
                    self.assertEqual(len(node.targets), 1, path)
                if isinstance(node, ast.FunctionDef):
                    self.assertLessEqual(node.end_lineno - node.lineno + 1, 40, (path, node.name))
                    self.assertEqual(node.decorator_list, [], (path, node.name))

    def test_only_the_built_in_names_that_are_allowed(self):
        for path, tree in self.trees():
            for node in ast.walk(tree):
                if isinstance(node, ast.Name) and hasattr(builtins, node.id):
                    self.assertIn(node.id, ALLOWED_BUILTINS, path)
                    self.assertIsInstance(node.ctx, ast.Load, (path, node.id))

    def test_parameters_and_attributes_have_plain_names(self):
        for path, tree in self.trees():
            for node in ast.walk(tree):
                if isinstance(node, ast.arg):
                    self.assertFalse(hasattr(builtins, node.arg) or node.arg.startswith("_"), (path, node.arg))
                if isinstance(node, ast.Name):
                    self.assertFalse(node.id.startswith("_"), (path, node.id))
                if isinstance(node, ast.Attribute):
                    self.assertFalse(node.attr.startswith("_"), (path, node.attr))

    def test_methods_and_values_of_objects_are_apart(self):
        methods = set()
        values = set()
        attributes = set()
        for path, tree in self.trees():
            for node in ast.walk(tree):
                if isinstance(node, ast.ClassDef):
                    methods.update(part.name for part in node.body if isinstance(part, ast.FunctionDef))
                if isinstance(node, ast.Attribute):
                    attributes.add(node.attr)
                    if isinstance(node.ctx, ast.Store):
                        values.add(node.attr)
        self.assertEqual(methods & values, set())
        self.assertEqual(attributes - methods - values - ALLOWED_METHODS, set())
        for name in sorted((methods | values) - {"__init__"}):
            self.assertFalse(any(hasattr(kind, name) for kind in PYTHONS_OWN), name)

    def test_no_two_files_draw_from_one_another(self):
        drawn = {}
        for path, tree in self.trees():
            drawn[path.stem] = [
                node.module.split(".")[1] for node in ast.walk(tree) if isinstance(node, ast.ImportFrom)
            ]
        while drawn:
            free = [name for name in drawn if not any(other in drawn for other in drawn[name])]
            self.assertNotEqual(free, [], drawn)
            for name in free:
                del drawn[name]


if __name__ == "__main__":
    unittest.main()
