"""The package's own files keep to the small part of Python that they are to be written in."""

import ast
import builtins
import pathlib
import re
import unittest

PACKAGE = pathlib.Path(__file__).resolve().parent.parent / "reallyowned"
FILES = sorted(path for path in PACKAGE.rglob("*") if path.is_file() and "__pycache__" not in path.parts)

ALLOWED_NODES = (
    "Module Import ImportFrom alias FunctionDef ClassDef arguments arg Lambda Assign AugAssign If While For Return "
    "Break Continue Pass Raise Try ExceptHandler Expr Constant Name Load Store List Tuple Dict BinOp Add Sub Mult "
    "FloorDiv Mod Pow BitAnd BitOr BitXor LShift RShift Invert UnaryOp USub UAdd Not BoolOp And Or Compare Eq NotEq "
    "Lt LtE Gt GtE Is IsNot In NotIn IfExp Call keyword Attribute Subscript Slice ListComp comprehension JoinedStr "
    "FormattedValue"
).split()
ALLOWED_BUILTINS = (
    "len range enumerate zip min max sum abs sorted reversed int str bool list tuple dict set frozenset isinstance "
    "ord repr any all divmod Exception ValueError TypeError KeyError IndexError LookupError ZeroDivisionError "
    "ArithmeticError OverflowError RuntimeError NotImplementedError AttributeError StopIteration"
).split()
ALLOWED_METHODS = (
    "append clear copy count endswith extend find get index insert isalnum isalpha isdigit islower isspace isupper "
    "items join keys ljust lower lstrip partition pop remove replace reverse rfind rjust rpartition rsplit rstrip "
    "setdefault split splitlines startswith strip update upper values zfill bit_length add discard"
).split()
WORDS_NOWHERE = (
    "type typing typing_extensions enum Enum IntEnum StrEnum Flag IntFlag Generic Protocol ABC ABCMeta namedtuple "
    "NamedTuple TypedDict TYPE_CHECKING abstractmethod"
).split()
NAMES_NOWHERE = "register mro elements open input version_info with_traceback add_note".split()
TAKEN_ATTRIBUTES = {name for kind in (str, int, list, dict, set, bytes, tuple) for name in dir(kind)}


def trees():
    return [(path, ast.parse(path.read_text(encoding="utf-8"))) for path in FILES]


def nodes():
    return [(path.name, node) for path, tree in trees() for node in ast.walk(tree)]


class Language(unittest.TestCase):
    def test_files(self):
        self.assertTrue(FILES)
        for path in FILES:
            self.assertRegex(path.name, r"\A[a-z0-9_]+\.py\Z")
            text = path.read_bytes()
            self.assertTrue(all(sign == 10 or 32 <= sign <= 126 for sign in text), path)
            rows = text.decode("ascii").split("\n")
            self.assertLessEqual(len(rows), 400, path)
            self.assertLessEqual(max(len(row) for row in rows), 120, path)
            words = re.findall(r"\w+", text.decode("ascii"))
            self.assertFalse([word for word in words if word in WORDS_NOWHERE], path)

    def test_nodes(self):
        for name, node in nodes():
            self.assertIn(node.__class__.__name__, ALLOWED_NODES, f"{name}:{getattr(node, 'lineno', 0)}")
            if isinstance(node, ast.Assign):
                self.assertEqual(len(node.targets), 1, f"{name}:{node.lineno}")
            if isinstance(node, ast.FunctionDef):
                self.assertLessEqual(node.end_lineno - node.lineno + 1, 40, f"{name}:{node.lineno}")
                self.assertFalse(node.decorator_list, f"{name}:{node.lineno}")

    def test_imports(self):
        for name, node in nodes():
            self.assertNotIsInstance(node, ast.Import, name)
            if isinstance(node, ast.ImportFrom):
                self.assertEqual(node.level, 0, name)
                self.assertTrue(node.module.startswith("reallyowned."), name)

    def test_names(self):
        for name, node in nodes():
            where = f"{name}:{getattr(node, 'lineno', 0)}"
            if isinstance(node, ast.Name):
                self.assertNotIn(node.id, NAMES_NOWHERE, where)
                self.assertRegex(node.id, r"\A[A-Za-z]\w*\Z", where)
                if hasattr(builtins, node.id):
                    self.assertIn(node.id, ALLOWED_BUILTINS, where)
                    self.assertIsInstance(node.ctx, ast.Load, where)
            if isinstance(node, (ast.arg, ast.FunctionDef)):
                named = node.arg if isinstance(node, ast.arg) else node.name
                self.assertTrue(named == "__init__" or named[0] != "_", where)
                self.assertTrue(named == "__init__" or not hasattr(builtins, named), where)
            if isinstance(node, ast.Attribute) and node.attr in TAKEN_ATTRIBUTES:
                self.assertIn(node.attr, ALLOWED_METHODS, where)


if __name__ == "__main__":
    unittest.main()
