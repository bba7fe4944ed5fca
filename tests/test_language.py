"""Those rules of the language part that a look at the package's files can hold."""

import ast
import builtins
import re
import unittest
from pathlib import Path

FOLDER = Path(__file__).resolve().parent.parent / "boardingqueue"

PYTHONS_NAMES = [name for name in dir(builtins) if not name.startswith("__")]
OWN_NAMES = set("""len range enumerate zip min max sum abs sorted reversed int str bool list tuple dict set frozenset
    isinstance ord repr any all divmod Exception ValueError TypeError KeyError IndexError LookupError ZeroDivisionError
    ArithmeticError OverflowError RuntimeError NotImplementedError AttributeError StopIteration""".split())
OWN_METHODS = set("""append clear copy count endswith extend find get index insert isalnum isalpha isdigit islower
    isspace isupper items join keys ljust lower lstrip partition pop remove replace reverse rfind rjust rpartition
    rsplit rstrip setdefault split splitlines startswith strip update upper values zfill bit_length""".split())
BARRED_WORDS = re.compile(r"\b(type|typing|typing_extensions|enum|Enum|IntEnum|StrEnum|Flag|IntFlag|Generic|Protocol"
                          r"|ABC|ABCMeta|namedtuple|NamedTuple|TypedDict|TYPE_CHECKING|abstractmethod)\b"
                          r"|dataclass|overload|contextmanager")
ALLOWED = (
    ast.Module, ast.ImportFrom, ast.alias, ast.FunctionDef, ast.ClassDef, ast.arguments, ast.arg, ast.Return,
    ast.Assign, ast.AugAssign, ast.If, ast.While, ast.For, ast.Break, ast.Continue, ast.Pass, ast.Expr, ast.Call,
    ast.Name, ast.Load, ast.Store, ast.Constant, ast.List, ast.Tuple, ast.Dict, ast.Attribute, ast.Subscript,
    ast.Slice, ast.ListComp, ast.comprehension, ast.IfExp, ast.BoolOp, ast.boolop, ast.BinOp, ast.Add, ast.Sub,
    ast.Mult, ast.FloorDiv, ast.Mod, ast.Pow, ast.BitAnd, ast.BitOr, ast.BitXor, ast.LShift, ast.RShift, ast.UnaryOp,
    ast.Not, ast.USub, ast.Invert, ast.Compare, ast.cmpop, ast.keyword, ast.Raise, ast.Try, ast.ExceptHandler,
    ast.Lambda, ast.JoinedStr, ast.FormattedValue)


def package_files():
    return sorted(path for path in FOLDER.iterdir() if path.name != "__pycache__")


class Language(unittest.TestCase):
    def test_only_plain_files(self):
        for path in package_files():
            self.assertRegex(path.name, r"\A([a-z][a-z0-9_]*|__init__)\.py\Z")
            self.assertNotIn(path.stem, PYTHONS_NAMES, path.name)

    def test_signs_words_and_sizes(self):
        for path in package_files():
            text = path.read_bytes().decode("ascii")
            lines = text.split("\n")
            self.assertLessEqual(len(lines), 401, path.name)
            self.assertIsNone(BARRED_WORDS.search(text), path.name)
            for line in lines:
                self.assertRegex(line, r"\A[ -~]{0,120}\Z", path.name)

    def nodes(self):
        for path in package_files():
            for node in ast.walk(ast.parse(path.read_text())):
                yield node, f"{path.name}:{getattr(node, 'lineno', 0)}"

    def test_only_the_small_part_of_python(self):
        for node, where in self.nodes():
            self.assertIsInstance(node, ALLOWED, where)
            if isinstance(node, ast.Constant):
                self.assertIn(type(node.value), (int, str, bool, type(None)), where)
            if isinstance(node, ast.FunctionDef):
                self.assertLessEqual(node.end_lineno - node.lineno + 1, 40, where)
                self.assertEqual(node.decorator_list, [], where)
            if isinstance(node, ast.ImportFrom):
                self.assertTrue(node.module.startswith("boardingqueue.") and node.level == 0, where)

    def test_names(self):
        own = {node.name for node, where in self.nodes() if isinstance(node, (ast.FunctionDef, ast.ClassDef))}
        for node, where in self.nodes():
            if isinstance(node, ast.Name):
                self.assertRegex(node.id, r"\A[A-Za-z][A-Za-z0-9_]*\Z", where)
                if node.id in PYTHONS_NAMES:
                    self.assertIn(node.id, OWN_NAMES, where)
                    self.assertIsInstance(node.ctx, ast.Load, where)
            if isinstance(node, (ast.FunctionDef, ast.ClassDef)):
                self.assertNotIn(node.name, PYTHONS_NAMES, where)
            if isinstance(node, ast.arg):
                self.assertNotIn(node.arg, PYTHONS_NAMES, where)
            if isinstance(node, ast.Call) and isinstance(node.func, ast.Attribute):
                self.assertIn(node.func.attr, OWN_METHODS | own, where)


if __name__ == "__main__":
    unittest.main()
