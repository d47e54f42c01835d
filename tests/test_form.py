"""The form of the package's files, as far as a short test sees it: sizes, signs, words, imports, builtins."""

import ast
import builtins
import doctest
import pathlib
import re
import unittest

ROOT = pathlib.Path(__file__).resolve().parent.parent
PACKAGE = ROOT / "closedrings"
BARRED = re.compile(
    r"\b(type|typing|typing_extensions|enum|Enum|IntEnum|StrEnum|Flag|IntFlag|Generic|Protocol|ABC|ABCMeta|namedtuple"
    r"|NamedTuple|TypedDict|TYPE_CHECKING|abstractmethod)\b|dataclass|overload|contextmanager")
BUILTINS = set(
    "len range enumerate zip min max sum abs sorted reversed int str bool list tuple dict set isinstance ord repr any"
    " all divmod Exception ValueError TypeError KeyError IndexError LookupError ZeroDivisionError ArithmeticError"
    " OverflowError RuntimeError NotImplementedError".split())


def files():
    return sorted(path for path in PACKAGE.rglob("*") if path.is_file() and "__pycache__" not in path.parts)


def nodes(path, kinds):
    return [node for node in ast.walk(ast.parse(path.read_text())) if isinstance(node, kinds)]


class Form(unittest.TestCase):

    def test_only_plain_files(self):
        self.assertGreater(len(files()), 1)
        for path in files():
            self.assertRegex(str(path.relative_to(ROOT)), r"\Aclosedrings/([a-z0-9_]+)\.py\Z")

    def test_sizes_and_signs(self):
        for path in files():
            text = path.read_text()
            self.assertRegex(text, r"\A[ -~\n]*\Z")
            self.assertLessEqual(len(text.splitlines()), 400, path)
            self.assertLessEqual(max(len(line) for line in text.splitlines()), 120, path)
            for node in nodes(path, ast.FunctionDef):
                self.assertLessEqual(node.end_lineno - node.lineno + 1, 40, (path, node.name))

    def test_barred_words(self):
        for path in files():
            self.assertIsNone(BARRED.search(path.read_text()), path)

    def test_imports_are_of_the_package(self):
        for path in files():
            self.assertEqual(nodes(path, ast.Import), [], path)
            for node in nodes(path, ast.ImportFrom):
                self.assertRegex(node.module, r"\Aclosedrings\.[a-z0-9_]+\Z")

    def test_names(self):
        for path in files():
            for node in nodes(path, ast.Name):
                self.assertFalse(node.id.startswith("_"), (path, node.lineno))
                if isinstance(node.ctx, ast.Load):
                    self.assertTrue(node.id in BUILTINS or not hasattr(builtins, node.id), (path, node.lineno))
                else:
                    self.assertFalse(hasattr(builtins, node.id), (path, node.lineno))
            for node in nodes(path, ast.arg):
                self.assertFalse(hasattr(builtins, node.arg), (path, node.lineno))


class Readme(unittest.TestCase):

    def test_its_examples_hold(self):
        result = doctest.testfile(str(ROOT / "README.md"), module_relative=False)
        self.assertGreater(result.attempted, 0)
        self.assertEqual(result.failed, 0)


if __name__ == "__main__":
    unittest.main()
