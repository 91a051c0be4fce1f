"""Some rules of the language subset that a program can look up in the files of the package."""

import ast
import re
import unittest
from pathlib import Path

PACKAGE = Path(__file__).resolve().parent.parent / "rowfolds"
FILES = sorted(PACKAGE.glob("*.py"))
BUILTINS = set("""
    len range enumerate zip min max sum abs sorted reversed int str bool bytes list tuple dict set isinstance ord repr
    any all divmod iter next Exception ValueError TypeError KeyError IndexError LookupError ZeroDivisionError
""".split())
BARRED_WORDS = re.compile(r"""
    \b(type|typing|typing_extensions|enum|Enum|IntEnum|StrEnum|Flag|IntFlag|Generic|Protocol|ABC|ABCMeta|namedtuple
    |NamedTuple|TypedDict|TYPE_CHECKING|abstractmethod)\b|dataclass|overload|contextmanager
""", re.VERBOSE)


def trees():
    return [(file, ast.parse(file.read_text("ascii"))) for file in FILES]


class LanguageTest(unittest.TestCase):
    def test_the_package_has_python_files_only(self):
        names = {file.name for file in PACKAGE.iterdir() if file.name != "__pycache__"}
        self.assertIn("__init__.py", names)
        for name in names:
            self.assertRegex(name, r"^[a-z0-9_]+\.py$")

    def test_characters_and_sizes(self):
        for file in FILES:
            with self.subTest(file.name):
                self.assertRegex(file.read_bytes().decode("ascii"), r"\A[ -~\n]*\Z")
                lines = file.read_text("ascii").splitlines()
                self.assertLess(len(lines), 400)
                self.assertLessEqual(max(map(len, lines)), 120)

    def test_functions_are_short(self):
        for file, tree in trees():
            for node in ast.walk(tree):
                if isinstance(node, ast.FunctionDef):
                    with self.subTest(file.name, function=node.name):
                        self.assertLessEqual(node.end_lineno - node.lineno + 1, 40)

    def test_barred_words(self):
        for file in FILES:
            with self.subTest(file.name):
                self.assertNotRegex(file.read_text("ascii"), BARRED_WORDS)

    def test_strings_have_no_percent_sign(self):
        for file, tree in trees():
            for node in ast.walk(tree):
                if isinstance(node, ast.Constant) and isinstance(node.value, str):
                    with self.subTest(file.name, line=node.lineno):
                        self.assertNotIn("%", node.value)

    def test_imports_name_files_of_the_package(self):
        for file, tree in trees():
            for node in ast.walk(tree):
                with self.subTest(file.name):
                    self.assertNotIsInstance(node, ast.Import)
                    if isinstance(node, ast.ImportFrom):
                        self.assertEqual(node.level, 0)
                        self.assertTrue(node.module.startswith("rowfolds."), node.module)
                        self.assertIn(node, tree.body)

    def test_names_are_defined_or_allowed_builtins(self):
        for file, tree in trees():
            nodes = list(ast.walk(tree))
            known = {alias.name for node in nodes if isinstance(node, ast.ImportFrom) for alias in node.names}
            known |= {node.name for node in nodes if isinstance(node, (ast.FunctionDef, ast.ClassDef))}
            known |= {node.arg for node in nodes if isinstance(node, ast.arg)}
            known |= {node.id for node in nodes if isinstance(node, ast.Name) and isinstance(node.ctx, ast.Store)}
            self.assertEqual(known & BUILTINS, set(), file.name)
            for node in nodes:
                if isinstance(node, ast.Name):
                    with self.subTest(file.name, line=node.lineno):
                        self.assertIn(node.id, known | BUILTINS)
            for name in known:
                self.assertRegex(name, r"^(__init__|[A-Za-z][A-Za-z0-9_]*)$", file.name)


if __name__ == "__main__":
    unittest.main()
