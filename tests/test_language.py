"""Some rules of the language subset that a program can look up in the files of the package."""

import ast
import builtins
import re
import unittest
from pathlib import Path

PACKAGE = Path(__file__).resolve().parent.parent / "rowfolds"
FILES = sorted(PACKAGE.glob("*.py"))
BUILTINS = set("""
    len range enumerate zip min max sum abs sorted reversed int str bool bytes list tuple dict set isinstance ord repr
    any all divmod iter next Exception ValueError TypeError KeyError IndexError LookupError ZeroDivisionError
""".split())
METHODS = set("""
    append clear copy count endswith extend find get index insert isalnum isalpha isdigit islower isspace isupper items
    join keys ljust lower lstrip partition pop remove replace reverse rfind rjust rpartition rsplit rstrip setdefault
    split splitlines startswith strip update upper values zfill bit_length
""".split())
STATEMENTS = (
    ast.FunctionDef, ast.ClassDef, ast.ImportFrom, ast.Assign, ast.AnnAssign, ast.AugAssign, ast.If, ast.While, ast.For,
    ast.Return, ast.Break, ast.Continue, ast.Pass, ast.Raise, ast.Assert, ast.Delete, ast.Nonlocal, ast.Match, ast.With,
    ast.Try, ast.Expr,
)
# Names that stand only where the rules for classes allow them.
DECORATORS = {"property", "staticmethod", "classmethod"}
OF_CLASSES = DECORATORS | {"super"}
DOUBLE_UNDERSCORE = {"__init__", "__len__", "__str__", "__eq__"}
BARRED_ATTRIBUTES = set("""
    items keys values pop update append clear extend insert remove reverse setdefault sort args encode decode hex
    fromhex format format_map mro register elements open input law
""".split())
BUILTIN_KEYWORDS = {"sorted": {"key", "reverse"}, "min": {"key", "default"}, "max": {"key", "default"},
                    "sum": {"start"}, "enumerate": {"start"}, "zip": {"strict"}}
ONE_TIME = {"range", "zip", "enumerate", "reversed"}
ITERATING = {"list", "tuple", "dict", "sorted", "sum", "any", "all", "enumerate", "zip"}
BARRED_WORDS = re.compile(r"""
    \b(type|typing|typing_extensions|enum|Enum|IntEnum|StrEnum|Flag|IntFlag|Generic|Protocol|ABC|ABCMeta|namedtuple
    |NamedTuple|TypedDict|TYPE_CHECKING|abstractmethod)\b|dataclass|overload|contextmanager
""", re.VERBOSE)


def trees():
    return [(file, ast.parse(file.read_text("ascii"))) for file in FILES]


def called_name(node):
    """Return the name of the function that the node calls, or None if it calls none by its name."""
    return node.func.id if isinstance(node, ast.Call) and isinstance(node.func, ast.Name) else None


def iterated_at_once(tree):
    """Return the expressions over which a loop, a comprehension or a builtin goes on the spot."""
    nodes = list(ast.walk(tree))
    loops = [node.iter for node in nodes if isinstance(node, (ast.For, ast.comprehension))]
    return loops + [node.args[0] for node in nodes if called_name(node) in ITERATING and node.args]


class LanguageTest(unittest.TestCase):
    def test_the_package_has_python_files_only(self):
        names = {file.name for file in PACKAGE.iterdir() if file.name != "__pycache__"}
        self.assertIn("__init__.py", names)
        for name in names:
            self.assertRegex(name, r"^[a-z0-9_]+\.py$")

    def test_characters_and_sizes(self):
        for file in FILES:
            with self.subTest(file.name):
                self.assertRegex(file.read_bytes().decode("ascii"), r"\A[ -~\n]*\Z")
                lines = file.read_text("ascii").splitlines()
                self.assertLess(len(lines), 400)
                self.assertLessEqual(max(map(len, lines)), 120)

    def test_functions_are_short(self):
        for file, tree in trees():
            for node in ast.walk(tree):
                if isinstance(node, ast.FunctionDef):
                    with self.subTest(file.name, function=node.name):
                        self.assertLessEqual(node.end_lineno - node.lineno + 1, 40)

    def test_barred_words(self):
        for file in FILES:
            with self.subTest(file.name):
                self.assertNotRegex(file.read_text("ascii"), BARRED_WORDS)

    def test_strings_have_no_percent_sign(self):
        for file, tree in trees():
            for node in ast.walk(tree):
                if isinstance(node, ast.Constant) and isinstance(node.value, str):
                    with self.subTest(file.name, line=node.lineno):
                        self.assertNotIn("%", node.value)

    def test_imports_name_files_of_the_package(self):
        for file, tree in trees():
            for node in ast.walk(tree):
                with self.subTest(file.name):
                    self.assertNotIsInstance(node, ast.Import)
                    if isinstance(node, ast.ImportFrom):
                        self.assertEqual(node.level, 0)
                        self.assertTrue(node.module.startswith("rowfolds."), node.module)
                        self.assertIn(node, tree.body)

    def test_names_are_defined_or_allowed_builtins(self):
        for file, tree in trees():
            nodes = list(ast.walk(tree))
            known = {alias.name for node in nodes if isinstance(node, ast.ImportFrom) for alias in node.names}
            known |= {node.name for node in nodes if isinstance(node, (ast.FunctionDef, ast.ClassDef))}
            known |= {node.arg for node in nodes if isinstance(node, ast.arg)}
            known |= {node.id for node in nodes if isinstance(node, ast.Name) and isinstance(node.ctx, ast.Store)}
            self.assertEqual(known & BUILTINS, set(), file.name)
            for node in nodes:
                if isinstance(node, ast.Name):
                    with self.subTest(file.name, line=node.lineno):
                        self.assertIn(node.id, known | BUILTINS | OF_CLASSES)
            self.assertEqual(known & OF_CLASSES, set(), file.name)
            for name in known - DOUBLE_UNDERSCORE:
                self.assertRegex(name, r"^[A-Za-z][A-Za-z0-9_]*$", file.name)

    def test_statements(self):
        for file, tree in trees():
            for node in ast.walk(tree):
                if isinstance(node, ast.stmt):
                    with self.subTest(file.name, line=node.lineno):
                        self.assertIsInstance(node, STATEMENTS)

    def test_no_names_are_bound_twice_at_module_level(self):
        for file, tree in trees():
            names = [alias.name for node in tree.body if isinstance(node, ast.ImportFrom) for alias in node.names]
            imported = set(names)
            names += [node.name for node in tree.body if isinstance(node, (ast.FunctionDef, ast.ClassDef))]
            names += [node.targets[0].id for node in tree.body if isinstance(node, ast.Assign)]
            self.assertEqual(len(names), len(set(names)), file.name)
            inner = {node.arg for node in ast.walk(tree) if isinstance(node, ast.arg)}
            inner |= {node.id for node in ast.walk(tree) if isinstance(node, ast.Name) and node.id not in BUILTINS
                      and isinstance(node.ctx, ast.Store)}
            self.assertEqual(inner & imported, set(), file.name)
            self.assertEqual(inner & set(dir(builtins)), set(), file.name)

    def test_imports_make_no_circle(self):
        imports = {}
        for file, tree in trees():
            modules = [node.module for node in ast.walk(tree) if isinstance(node, ast.ImportFrom)]
            imports["rowfolds." + file.stem] = set(modules)
        while imports:
            free = [name for name in imports if not imports[name] & set(imports)]
            self.assertNotEqual(free, [], imports)
            imports = {name: imports[name] for name in imports if name not in free}

    def test_imported_names_are_defined_there_and_used_here(self):
        defined = {"rowfolds." + file.stem: {
            getattr(node, "name", None) or node.targets[0].id
            for node in tree.body if isinstance(node, (ast.FunctionDef, ast.ClassDef, ast.Assign))
        } for file, tree in trees()}
        for file, tree in trees():
            used = {node.id for node in ast.walk(tree) if isinstance(node, ast.Name)}
            for node in tree.body:
                if isinstance(node, ast.ImportFrom):
                    names = {alias.name for alias in node.names}
                    self.assertLessEqual(names, defined[node.module], file.name)
                    self.assertLessEqual(names, used, file.name)

    def test_ranges_and_the_like_are_iterated_at_once(self):
        for file, tree in trees():
            for node in ast.walk(tree):
                if called_name(node) in ONE_TIME:
                    with self.subTest(file.name, line=node.lineno):
                        self.assertIn(node, iterated_at_once(tree))

    def test_generators_are_iterated_at_once(self):
        functions = [node for file, tree in trees() for node in ast.walk(tree) if isinstance(node, ast.FunctionDef)]
        generators = {node.name for node in functions if any(isinstance(inner, ast.Yield) for inner in ast.walk(node))}
        self.assertLessEqual({"each_block", "states_along", "each_foldable"}, generators)
        for file, tree in trees():
            nodes = list(ast.walk(tree))
            calls = [node for node in nodes if called_name(node) in generators]
            for node in calls:
                with self.subTest(file.name, line=node.lineno):
                    self.assertIn(node, iterated_at_once(tree))
            named = [node for node in nodes if isinstance(node, ast.Name) and node.id in generators]
            self.assertEqual(len(named), len(calls), file.name)

    def test_calls_signs_and_values(self):
        nodes = [(file, node) for file, tree in trees() for node in ast.walk(tree)]
        own = {node.name for file, node in nodes if isinstance(node, ast.FunctionDef)}
        for file, node in nodes:
            with self.subTest(file.name, line=getattr(node, "lineno", None)):
                self.assertNotIsInstance(node, ast.Div)
                self.assertNotIsInstance(getattr(node, "value", None), float)
                if isinstance(node, ast.Call) and isinstance(node.func, ast.Attribute):
                    self.assertIn(node.func.attr, METHODS | own)
                if isinstance(node, ast.Compare) and isinstance(node.ops[0], (ast.Is, ast.IsNot)):
                    self.assertIn(getattr(node.comparators[0], "value", "other"), (None, True, False))

    def test_keywords_of_builtins(self):
        for file, tree in trees():
            for node in ast.walk(tree):
                if called_name(node) in BUILTINS:
                    with self.subTest(file.name, line=node.lineno):
                        names = {keyword.arg for keyword in node.keywords}
                        self.assertLessEqual(names, BUILTIN_KEYWORDS.get(node.func.id, set()))

    def test_tables_are_only_read(self):
        for file, tree in trees():
            tables = {node.targets[0].id for node in tree.body
                      if isinstance(node, ast.Assign) and isinstance(node.value, (ast.Dict, ast.List))}
            nodes = list(ast.walk(tree))
            read = [node.value for node in nodes if isinstance(node, ast.Subscript) and isinstance(node.ctx, ast.Load)]
            read += [node.value for node in nodes if isinstance(node, ast.Attribute) and node.attr == "get"]
            for node in nodes:
                if isinstance(node, ast.Name) and isinstance(node.ctx, ast.Load) and node.id in tables:
                    with self.subTest(file.name, line=node.lineno):
                        self.assertIn(node, read)

    def test_no_generator_expressions_and_no_lambdas(self):
        for file, tree in trees():
            for node in ast.walk(tree):
                with self.subTest(file.name, line=getattr(node, "lineno", None)):
                    self.assertNotIsInstance(node, (ast.GeneratorExp, ast.Lambda, ast.NamedExpr, ast.SetComp, ast.Set))


def classes():
    """Return all classes of the package, with the names of their bases and whether they are error classes."""
    found = []
    errors = {"ValueError", "LookupError"}
    for file, tree in trees():
        for node in tree.body:
            if isinstance(node, ast.ClassDef):
                bases = [base.id for base in node.bases]
                if errors & set(bases):
                    errors.add(node.name)
                found.append((node, bases, node.name in errors))
    return found


def methods_of(node):
    return [inner for inner in node.body if isinstance(inner, ast.FunctionDef)]


def decorators_of(node):
    return [decorator.id for decorator in node.decorator_list]


def plain_value(node):
    if isinstance(node, ast.Tuple):
        return all(plain_value(item) for item in node.elts)
    return isinstance(node, ast.Constant)


def attributes(context):
    """Return the names of the attributes that are read (or assigned) somewhere in the package."""
    return {node.attr for file, tree in trees() for node in ast.walk(tree)
            if isinstance(node, ast.Attribute) and isinstance(node.ctx, context)}


class ClassesTest(unittest.TestCase):
    def test_bases_are_defined_above_or_are_errors(self):
        above = {"ValueError", "LookupError"}
        for node, bases, is_error in classes():
            self.assertLessEqual(set(bases), above, node.name)
            self.assertEqual((node.decorator_list, node.keywords), ([], []))
            above.add(node.name)

    def test_bodies(self):
        for node, bases, is_error in classes():
            docstring, *body = node.body
            self.assertIsInstance(docstring.value.value, str)
            for inner in body:
                with self.subTest(node.name, line=inner.lineno):
                    self.assertIsInstance(inner, (ast.FunctionDef, ast.Assign))
                    if isinstance(inner, ast.Assign):
                        self.assertFalse(is_error)
                        self.assertTrue(plain_value(inner.value))
                        self.assertRegex(inner.targets[0].id, "^[A-Z][A-Z_]*$")
                    elif inner.name.startswith("_"):
                        self.assertIn(inner.name, DOUBLE_UNDERSCORE)

    def test_functions_have_no_decorators_but_those_of_methods(self):
        for file, tree in trees():
            inside = {id(inner) for node in tree.body if isinstance(node, ast.ClassDef) for inner in methods_of(node)}
            for node in ast.walk(tree):
                if isinstance(node, ast.FunctionDef):
                    with self.subTest(file.name, line=node.lineno):
                        self.assertLessEqual(len(node.decorator_list), 1)
                        self.assertLessEqual(set(decorators_of(node)), DECORATORS)
                        self.assertTrue(id(node) in inside or not node.decorator_list)

    def test_first_parameters(self):
        for node, bases, is_error in classes():
            for inner in methods_of(node):
                with self.subTest(node.name, method=inner.name):
                    names = [argument.arg for argument in inner.args.args]
                    if decorators_of(inner) == ["staticmethod"]:
                        self.assertNotIn("self", names)
                    else:
                        first = "cls" if decorators_of(inner) == ["classmethod"] else "self"
                        self.assertEqual(names[0], first)
                    if decorators_of(inner) == ["property"]:
                        self.assertEqual(names, ["self"])
                    self.assertFalse(is_error and decorators_of(inner))

    def test_super_calls_a_method_on_the_spot(self):
        for file, tree in trees():
            nodes = list(ast.walk(tree))
            named = [node for node in nodes if isinstance(node, ast.Name) and node.id == "super"]
            methods = [inner for node in nodes if isinstance(node, ast.ClassDef) for inner in methods_of(node)]
            for method in methods:
                calls = [node.func for node in ast.walk(method)
                         if isinstance(node, ast.Call) and isinstance(node.func, ast.Attribute)]
                calls = [call for call in calls if called_name(call.value) == "super"]
                for call in calls:
                    with self.subTest(file.name, line=call.lineno):
                        self.assertEqual((call.value.args, decorators_of(method)), ([], []))
                        self.assertEqual(call.attr, method.name)
                        named.remove(call.value.func)
            self.assertEqual(named, [], file.name)

    def test_no_name_is_a_method_and_an_attribute(self):
        methods = [inner for node, bases, is_error in classes() for inner in methods_of(node)]
        names = {inner.name for inner in methods}
        values = {inner.targets[0].id for node, bases, is_error in classes() for inner in node.body
                  if isinstance(inner, ast.Assign)}
        assigned = attributes(ast.Store)
        self.assertEqual(names & assigned, set())
        self.assertEqual(values & (names | assigned), set())
        self.assertEqual(assigned & BARRED_ATTRIBUTES, set())
        self.assertLessEqual(attributes(ast.Load), names | values | assigned | METHODS | {"__init__"})

    def test_properties_static_and_class_methods_have_names_of_their_own(self):
        methods = [inner for node, bases, is_error in classes() for inner in methods_of(node)]
        own = {inner.name for inner in methods if inner.decorator_list}
        plain = {inner.name for inner in methods if not inner.decorator_list}
        self.assertEqual(own & plain, set())
        for name in own:
            for builtin in (str, int, list, dict, tuple, set, bytes):
                self.assertFalse(hasattr(builtin, name), name)

    def test_own_methods_with_the_names_of_builtin_ones(self):
        for node, bases, is_error in classes():
            for inner in methods_of(node):
                if any(hasattr(builtin, inner.name) for builtin in (str, int, list, dict, set, bytes)):
                    with self.subTest(node.name, method=inner.name):
                        self.assertIn(inner.name, METHODS | DOUBLE_UNDERSCORE)
                        self.assertEqual(inner.args.kwonlyargs, [])

    def test_methods_that_only_look(self):
        functions = {node.name: node for file, tree in trees() for node in methods_of(tree)}
        looking = [inner for node, bases, is_error in classes() for inner in methods_of(node)
                   if decorators_of(inner) == ["property"] or inner.name in ("__eq__", "__str__", "__len__")]
        self.assertEqual(len(looking), 7)
        seen = set()
        while looking:
            function = looking.pop()
            seen.add(function.name)
            created = {target.id for node in ast.walk(function) if isinstance(node, ast.Assign)
                       and isinstance(node.value, ast.List) for target in node.targets}
            for node in ast.walk(function):
                with self.subTest(function.name, line=getattr(node, "lineno", None)):
                    self.assertNotIsInstance(node, (ast.AugAssign, ast.Delete, ast.Raise))
                    if isinstance(node, (ast.Attribute, ast.Subscript)):
                        self.assertIsInstance(node.ctx, ast.Load)
                    if isinstance(node, ast.Call) and isinstance(node.func, ast.Attribute):
                        self.assertIn(node.func.attr, {"append", "index"})
                        self.assertTrue(node.func.attr == "index" or node.func.value.id in created)
                    if called_name(node) in functions and called_name(node) not in seen:
                        looking.append(functions[called_name(node)])
        self.assertIn("pattern_of", seen)

    def test_double_underscore_methods(self):
        for node, bases, is_error in classes():
            for inner in methods_of(node):
                returned = [step.value for step in ast.walk(inner) if isinstance(step, ast.Return)]
                if inner.name == "__init__":
                    self.assertEqual(returned, [], node.name)
                if inner.name in ("__len__", "__str__", "__eq__"):
                    self.assertIsInstance(inner.body[-1], ast.Return)
                if inner.name == "__len__":
                    self.assertEqual([called_name(value) for value in returned], ["len"])
                if inner.name == "__str__":
                    self.assertEqual([type(value) for value in returned], [ast.JoinedStr])

    def test_handlers_and_raised_errors(self):
        own = {node.name for node, bases, is_error in classes() if is_error}
        for file, tree in trees():
            for node in ast.walk(tree):
                with self.subTest(file.name, line=getattr(node, "lineno", None)):
                    if isinstance(node, ast.ExceptHandler):
                        caught = node.type.elts if isinstance(node.type, ast.Tuple) else [node.type]
                        self.assertLessEqual({name.id for name in caught}, own)
                    if isinstance(node, ast.Raise):
                        self.assertIn(called_name(node.exc), own)
                        self.assertEqual(node.exc.keywords, [])

    def test_what_stands_in_finally(self):
        blocks = [node.finalbody for file, tree in trees() for node in ast.walk(tree)
                  if isinstance(node, ast.Try) and node.finalbody]
        self.assertEqual(len(blocks), 1)
        allowed = (ast.Assign, ast.Tuple, ast.Name, ast.Attribute, ast.Constant, ast.expr_context)
        for step in blocks[0]:
            self.assertIsInstance(step, ast.Assign)
            self.assertEqual(len(step.targets), 1)
            for node in ast.walk(step):
                self.assertIsInstance(node, allowed)

    def test_classes_are_not_passed_on(self):
        names = {node.name for node, bases, is_error in classes()}
        for file, tree in trees():
            nodes = list(ast.walk(tree))
            fine = [node.func for node in nodes if isinstance(node, ast.Call)]
            fine += [base for node in nodes if isinstance(node, ast.ClassDef) for base in node.bases]
            fine += [node.args[1] for node in nodes if called_name(node) == "isinstance"]
            fine += [node.value for node in nodes if isinstance(node, ast.Attribute)]
            for node in nodes:
                if isinstance(node, ast.ExceptHandler):
                    fine += node.type.elts if isinstance(node.type, ast.Tuple) else [node.type]
            for node in nodes:
                if isinstance(node, ast.Name) and node.id in names:
                    with self.subTest(file.name, line=node.lineno):
                        self.assertIn(node, fine)


if __name__ == "__main__":
    unittest.main()
