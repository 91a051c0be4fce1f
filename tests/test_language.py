"""Some rules of the language subset that a program can look up in the files of the package."""

import ast
import builtins
import re
import unittest
from pathlib import Path

PACKAGE = Path(__file__).resolve().parent.parent / "rowfolds"
FILES = sorted(PACKAGE.glob("*.py"))
BUILTINS = set("""
    len range enumerate zip min max sum abs sorted reversed int str bool bytes list tuple dict set isinstance ord repr
    any all divmod iter next Exception ValueError TypeError KeyError IndexError LookupError ZeroDivisionError
""".split())
METHODS = set("""
    append clear copy count endswith extend find get index insert isalnum isalpha isdigit islower isspace isupper items
    join keys ljust lower lstrip partition pop remove replace reverse rfind rjust rpartition rsplit rstrip setdefault
    split splitlines startswith strip update upper values zfill bit_length
""".split())
STATEMENTS = (
    ast.FunctionDef, ast.ClassDef, ast.ImportFrom, ast.Assign, ast.AnnAssign, ast.AugAssign, ast.If, ast.While, ast.For,
    ast.Return, ast.Break, ast.Continue, ast.Pass, ast.Raise, ast.Assert, ast.Delete, ast.Nonlocal, ast.Match, ast.With,
    ast.Try, ast.Expr,
)
ONE_TIME = {"range", "zip", "enumerate", "reversed"}
ITERATING = {"list", "tuple", "dict", "sorted", "sum", "any", "all", "enumerate", "zip"}
BARRED_WORDS = re.compile(r"""
    \b(type|typing|typing_extensions|enum|Enum|IntEnum|StrEnum|Flag|IntFlag|Generic|Protocol|ABC|ABCMeta|namedtuple
    |NamedTuple|TypedDict|TYPE_CHECKING|abstractmethod)\b|dataclass|overload|contextmanager
""", re.VERBOSE)


def trees():
    return [(file, ast.parse(file.read_text("ascii"))) for file in FILES]


def called_name(node):
    """Return the name of the function that the node calls, or None if it calls none by its name."""
    return node.func.id if isinstance(node, ast.Call) and isinstance(node.func, ast.Name) else None


def iterated_at_once(tree):
    """Return the expressions over which a loop, a comprehension or a builtin goes on the spot."""
    nodes = list(ast.walk(tree))
    loops = [node.iter for node in nodes if isinstance(node, (ast.For, ast.comprehension))]
    return loops + [node.args[0] for node in nodes if called_name(node) in ITERATING and node.args]


class LanguageTest(unittest.TestCase):
    def test_the_package_has_python_files_only(self):
        names = {file.name for file in PACKAGE.iterdir() if file.name != "__pycache__"}
        self.assertIn("__init__.py", names)
        for name in names:
            self.assertRegex(name, r"^[a-z0-9_]+\.py$")

    def test_characters_and_sizes(self):
        for file in FILES:
            with self.subTest(file.name):
                self.assertRegex(file.read_bytes().decode("ascii"), r"\A[ -~\n]*\Z")
                lines = file.read_text("ascii").splitlines()
                self.assertLess(len(lines), 400)
                self.assertLessEqual(max(map(len, lines)), 120)

    def test_functions_are_short(self):
        for file, tree in trees():
            for node in ast.walk(tree):
                if isinstance(node, ast.FunctionDef):
                    with self.subTest(file.name, function=node.name):
                        self.assertLessEqual(node.end_lineno - node.lineno + 1, 40)

    def test_barred_words(self):
        for file in FILES:
            with self.subTest(file.name):
                self.assertNotRegex(file.read_text("ascii"), BARRED_WORDS)

    def test_strings_have_no_percent_sign(self):
        for file, tree in trees():
            for node in ast.walk(tree):
                if isinstance(node, ast.Constant) and isinstance(node.value, str):
                    with self.subTest(file.name, line=node.lineno):
                        self.assertNotIn("%", node.value)

    def test_imports_name_files_of_the_package(self):
        for file, tree in trees():
            for node in ast.walk(tree):
                with self.subTest(file.name):
                    self.assertNotIsInstance(node, ast.Import)
                    if isinstance(node, ast.ImportFrom):
                        self.assertEqual(node.level, 0)
                        self.assertTrue(node.module.startswith("rowfolds."), node.module)
                        self.assertIn(node, tree.body)

    def test_names_are_defined_or_allowed_builtins(self):
        for file, tree in trees():
            nodes = list(ast.walk(tree))
            known = {alias.name for node in nodes if isinstance(node, ast.ImportFrom) for alias in node.names}
            known |= {node.name for node in nodes if isinstance(node, (ast.FunctionDef, ast.ClassDef))}
            known |= {node.arg for node in nodes if isinstance(node, ast.arg)}
            known |= {node.id for node in nodes if isinstance(node, ast.Name) and isinstance(node.ctx, ast.Store)}
            self.assertEqual(known & BUILTINS, set(), file.name)
            for node in nodes:
                if isinstance(node, ast.Name):
                    with self.subTest(file.name, line=node.lineno):
                        self.assertIn(node.id, known | BUILTINS)
            for name in known:
                self.assertRegex(name, r"^(__init__|[A-Za-z][A-Za-z0-9_]*)$", file.name)

    def test_statements(self):
        for file, tree in trees():
            for node in ast.walk(tree):
                if isinstance(node, ast.stmt):
                    with self.subTest(file.name, line=node.lineno):
                        self.assertIsInstance(node, STATEMENTS)

    def test_no_names_are_bound_twice_at_module_level(self):
        for file, tree in trees():
            names = [alias.name for node in tree.body if isinstance(node, ast.ImportFrom) for alias in node.names]
            imported = set(names)
            names += [node.name for node in tree.body if isinstance(node, (ast.FunctionDef, ast.ClassDef))]
            names += [node.targets[0].id for node in tree.body if isinstance(node, ast.Assign)]
            self.assertEqual(len(names), len(set(names)), file.name)
            inner = {node.arg for node in ast.walk(tree) if isinstance(node, ast.arg)}
            inner |= {node.id for node in ast.walk(tree) if isinstance(node, ast.Name) and node.id not in BUILTINS
                      and isinstance(node.ctx, ast.Store)}
            self.assertEqual(inner & imported, set(), file.name)
            self.assertEqual(inner & set(dir(builtins)), set(), file.name)

    def test_imports_make_no_circle(self):
        imports = {}
        for file, tree in trees():
            modules = [node.module for node in ast.walk(tree) if isinstance(node, ast.ImportFrom)]
            imports["rowfolds." + file.stem] = set(modules)
        while imports:
            free = [name for name in imports if not imports[name] & set(imports)]
            self.assertNotEqual(free, [], imports)
            imports = {name: imports[name] for name in imports if name not in free}

    def test_imported_names_are_defined_there_and_used_here(self):
        defined = {"rowfolds." + file.stem: {
            getattr(node, "name", None) or node.targets[0].id
            for node in tree.body if isinstance(node, (ast.FunctionDef, ast.ClassDef, ast.Assign))
        } for file, tree in trees()}
        for file, tree in trees():
            used = {node.id for node in ast.walk(tree) if isinstance(node, ast.Name)}
            for node in tree.body:
                if isinstance(node, ast.ImportFrom):
                    names = {alias.name for alias in node.names}
                    self.assertLessEqual(names, defined[node.module], file.name)
                    self.assertLessEqual(names, used, file.name)

    def test_ranges_and_the_like_are_iterated_at_once(self):
        for file, tree in trees():
            for node in ast.walk(tree):
                if called_name(node) in ONE_TIME:
                    with self.subTest(file.name, line=node.lineno):
                        self.assertIn(node, iterated_at_once(tree))

    def test_generators_are_iterated_at_once(self):
        functions = [node for file, tree in trees() for node in ast.walk(tree) if isinstance(node, ast.FunctionDef)]
        generators = {node.name for node in functions if any(isinstance(inner, ast.Yield) for inner in ast.walk(node))}
        self.assertLessEqual({"each_block", "states_along", "each_foldable"}, generators)
        for file, tree in trees():
            nodes = list(ast.walk(tree))
            calls = [node for node in nodes if called_name(node) in generators]
            for node in calls:
                with self.subTest(file.name, line=node.lineno):
                    self.assertIn(node, iterated_at_once(tree))
            named = [node for node in nodes if isinstance(node, ast.Name) and node.id in generators]
            self.assertEqual(len(named), len(calls), file.name)

    def test_calls_signs_and_values(self):
        nodes = [(file, node) for file, tree in trees() for node in ast.walk(tree)]
        own = {node.name for file, node in nodes if isinstance(node, ast.FunctionDef)}
        for file, node in nodes:
            with self.subTest(file.name, line=getattr(node, "lineno", None)):
                self.assertNotIsInstance(node, ast.Div)
                self.assertNotIsInstance(getattr(node, "value", None), float)
                if isinstance(node, ast.Call) and isinstance(node.func, ast.Attribute):
                    self.assertIn(node.func.attr, METHODS | own)
                if isinstance(node, ast.Compare) and isinstance(node.ops[0], (ast.Is, ast.IsNot)):
                    self.assertIn(getattr(node.comparators[0], "value", "other"), (None, True, False))


if __name__ == "__main__":
    unittest.main()
