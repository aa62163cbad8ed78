"""The package's files keep to what of ../shared/LANGUAGE.md can be seen line by line."""

import ast
import builtins
import os
import re
import unittest

PACKAGE = os.path.join(os.path.dirname(os.path.dirname(os.path.abspath(__file__))), "albumkinds")

OWN_NAMES = """len range enumerate zip min max sum abs sorted reversed int str bool list tuple dict set frozenset
isinstance ord repr any all divmod Exception ValueError TypeError KeyError IndexError LookupError ZeroDivisionError
ArithmeticError OverflowError RuntimeError NotImplementedError AttributeError StopIteration""".split()

OUT = (ast.With, ast.Match, ast.Delete, ast.Global, ast.Nonlocal, ast.Assert, ast.Yield, ast.YieldFrom, ast.Await,
       ast.AsyncFor, ast.AsyncFunctionDef, ast.AsyncWith, ast.GeneratorExp, ast.SetComp, ast.DictComp, ast.NamedExpr,
       ast.Starred, ast.Div, ast.Import, ast.AnnAssign, ast.Set)

WORDS = r"""\b(type|typing|typing_extensions|enum|Enum|IntEnum|StrEnum|Flag|IntFlag|Generic|Protocol|ABC|ABCMeta
|namedtuple|NamedTuple|TypedDict|TYPE_CHECKING|abstractmethod)\b|dataclass|overload|contextmanager"""

METHODS = """append clear copy count endswith extend find get index insert isalnum isalpha isdigit islower isspace
isupper items join keys ljust lower lstrip partition pop remove replace reverse rfind rjust rpartition rsplit rstrip
setdefault split splitlines startswith strip update upper values zfill bit_length""".split()


def package_files():
    names = sorted(name for name in os.listdir(PACKAGE) if name != "__pycache__")
    return [os.path.join(PACKAGE, name) for name in names]


class Rules(unittest.TestCase):
    def setUp(self):
        self.texts = {}
        for path in package_files():
            with open(path, encoding="utf-8", newline="") as file:
                self.texts[path] = file.read()

    def nodes(self):
        for path, text in self.texts.items():
            for node in ast.walk(ast.parse(text)):
                yield f"{path}:{getattr(node, 'lineno', '')}", node

    def test_files(self):
        self.assertIn("__init__.py", [os.path.basename(path) for path in self.texts])
        for path in self.texts:
            self.assertRegex(os.path.basename(path), r"^[a-z0-9_]+\.py$")

    def test_signs_and_sizes(self):
        for path, text in self.texts.items():
            self.assertRegex(text, r"\A[ -~\n]*\Z", path)
            lines = text.split("\n")
            self.assertLessEqual(len(lines), 400, path)
            self.assertLessEqual(max(len(line) for line in lines), 120, path)

    def test_words(self):
        for path, text in self.texts.items():
            self.assertIsNone(re.search(WORDS, text, re.VERBOSE), path)

    def test_functions_are_short_and_plain(self):
        for where, node in self.nodes():
            if isinstance(node, ast.FunctionDef):
                self.assertLessEqual(node.end_lineno - node.lineno + 1, 40, where)
                self.assertEqual(node.decorator_list, [], where)
                self.assertIsNone(node.args.vararg or node.args.kwarg, where)

    def test_statements_and_expressions(self):
        for where, node in self.nodes():
            self.assertNotIsInstance(node, OUT, where)
            if isinstance(node, ast.Assign):
                self.assertEqual(len(node.targets), 1, where)
                self.assertNotIsInstance(node.targets[0], (ast.Tuple, ast.List), where)
            if isinstance(node, ast.Constant):
                self.assertNotIsInstance(node.value, (float, complex, bytes), where)
            if isinstance(node, ast.BinOp) and isinstance(node.op, ast.Pow):
                self.assertIsInstance(node.right, ast.Constant, where)

    def test_imports_are_the_package_own(self):
        for where, node in self.nodes():
            if isinstance(node, ast.ImportFrom):
                self.assertEqual((node.level, node.module.split(".")[0]), (0, "albumkinds"), where)

    def test_names(self):
        for where, node in self.nodes():
            if isinstance(node, ast.Name) and hasattr(builtins, node.id):
                self.assertIn(node.id, OWN_NAMES, where)
                self.assertIsInstance(node.ctx, ast.Load, where)
            if isinstance(node, (ast.arg, ast.Name)):
                name = node.arg if isinstance(node, ast.arg) else node.id
                self.assertRegex(name, r"^[A-Za-z]", where)
            if isinstance(node, ast.arg):
                self.assertFalse(hasattr(builtins, node.arg), where)

    def test_methods(self):
        own = [node.name for where, node in self.nodes() if isinstance(node, ast.FunctionDef)]
        for where, node in self.nodes():
            if isinstance(node, ast.Call) and isinstance(node.func, ast.Attribute):
                self.assertIn(node.func.attr, METHODS + own, where)


if __name__ == "__main__":
    unittest.main()
