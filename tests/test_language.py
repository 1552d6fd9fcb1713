"""Guards the rules of ../shared/LANGUAGE.md that a look at the package's files can see."""

import ast
import builtins
import pathlib
import re
import unittest

PACKAGE = pathlib.Path(__file__).resolve().parent.parent / "camshow"

OWN_NAMES = set(
    "len range enumerate zip min max sum abs sorted reversed int str bool list tuple dict set frozenset isinstance "
    "ord repr any all divmod Exception ValueError TypeError KeyError IndexError LookupError ZeroDivisionError "
    "ArithmeticError OverflowError RuntimeError NotImplementedError AttributeError StopIteration".split()
)
WORDS_NOT_USED = set(
    "type typing typing_extensions enum Enum IntEnum StrEnum Flag IntFlag Generic Protocol ABC ABCMeta namedtuple "
    "NamedTuple TypedDict TYPE_CHECKING abstractmethod".split()
)
METHODS = set(
    "append clear copy count endswith extend find get index insert isalnum isalpha isdigit islower isspace isupper "
    "items join keys ljust lower lstrip partition pop remove replace reverse rfind rjust rpartition rsplit rstrip "
    "setdefault split splitlines startswith strip update upper values zfill bit_length".split()
)
NODES_NOT_USED = (
    ast.With, ast.Match, ast.Delete, ast.Global, ast.Nonlocal, ast.Assert, ast.Yield, ast.YieldFrom, ast.Await,
    ast.AsyncFunctionDef, ast.AsyncFor, ast.AsyncWith, ast.Div, ast.MatMult, ast.SetComp, ast.DictComp,
    ast.GeneratorExp, ast.NamedExpr, ast.Starred, ast.Import, ast.AnnAssign,
)


def sources():
    return [(path.name, path.read_text(encoding="utf-8")) for path in sorted(PACKAGE.glob("*.py"))]


class Language(unittest.TestCase):
    def each_node(self):
        for name, text in sources():
            for node in ast.walk(ast.parse(text)):
                yield name, node

    def test_only_files_of_code_lie_in_the_package(self):
        for path in PACKAGE.iterdir():
            if path.name != "__pycache__":
                self.assertRegex(path.name, r"\A[a-z0-9_]+\.py\Z")
        self.assertTrue((PACKAGE / "__init__.py").is_file())

    def test_sizes_and_signs(self):
        for name, text in sources():
            rows = text.split("\n")
            self.assertLessEqual(len(rows), 399, name)
            for number, row in enumerate(rows, start=1):
                self.assertLessEqual(len(row), 120, (name, number))
                self.assertRegex(row, r"\A[ -~]*\Z", (name, number))
        for name, node in self.each_node():
            if isinstance(node, ast.FunctionDef):
                self.assertLessEqual(node.end_lineno - node.lineno + 1, 40, (name, node.name))
                self.assertEqual(node.decorator_list, [], (name, node.name))

    def test_words_that_are_not_used(self):
        for name, text in sources():
            self.assertEqual(set(re.findall(r"\w+", text)) & WORDS_NOT_USED, set(), name)

    def test_forms_that_are_not_used(self):
        for name, node in self.each_node():
            self.assertNotIsInstance(node, NODES_NOT_USED, (name, getattr(node, "lineno", 0)))
            if isinstance(node, ast.Constant):
                self.assertNotIsInstance(node.value, (float, complex, bytes), (name, node.lineno))

    def test_no_bare_value_stands_as_a_statement(self):
        # L6 knows a call by itself alone; L3 lets a docstring stand at the top of a file.
        for name, text in sources():
            top = ast.parse(text).body
            for node in ast.walk(ast.parse(text)):
                if isinstance(node, ast.Expr) and node.lineno != top[0].lineno:
                    self.assertIsInstance(node.value, ast.Call, (name, node.lineno))

    def test_methods_of_python_itself(self):
        for name, text in sources():
            own = {node.name for node in ast.walk(ast.parse(text)) if isinstance(node, ast.FunctionDef)}
            for node in ast.walk(ast.parse(text)):
                if isinstance(node, ast.Call) and isinstance(node.func, ast.Attribute) and node.func.attr not in own:
                    self.assertIn(node.func.attr, METHODS, (name, node.lineno))

    def test_imports_are_from_the_package_alone(self):
        for name, node in self.each_node():
            if isinstance(node, ast.ImportFrom):
                self.assertEqual(node.level, 0, name)
                self.assertTrue(node.module.startswith("camshow."), (name, node.module))

    def test_names_of_python_itself(self):
        for name, node in self.each_node():
            if isinstance(node, ast.Name) and hasattr(builtins, node.id):
                self.assertIn(node.id, OWN_NAMES, (name, node.lineno))
                self.assertIsInstance(node.ctx, ast.Load, (name, node.lineno))
            if isinstance(node, ast.arg):
                self.assertFalse(hasattr(builtins, node.arg), (name, node.lineno))


if __name__ == "__main__":
    unittest.main()
