"""The package's form: those rules of the language that can be seen in the files."""

import ast
import builtins
import pathlib
import re
import unittest

ROOT = pathlib.Path(__file__).resolve().parent.parent
PACKAGE = ROOT / "stripcards"
FILES = sorted(PACKAGE.rglob("*.py"))
TREES = {path: ast.parse(path.read_text(encoding="utf-8")) for path in FILES}

NODES = (
    "Module Expr Constant ImportFrom alias Assign AugAssign FunctionDef ClassDef arguments arg Lambda Return If While "
    "For Break Continue Pass Raise Try ExceptHandler Name Load Store Attribute Subscript Slice Call keyword BinOp "
    "UnaryOp BoolOp Compare IfExp List Tuple Dict ListComp comprehension JoinedStr FormattedValue Add Sub Mult "
    "FloorDiv Mod Pow LShift RShift BitOr BitXor BitAnd Invert Not UAdd USub And Or Eq NotEq Lt LtE Gt GtE Is IsNot "
    "In NotIn"
).split()
OWN_NAMES = (
    "len range enumerate zip min max sum abs sorted reversed int str bool list tuple dict set frozenset isinstance ord "
    "repr any all divmod Exception ValueError TypeError KeyError IndexError LookupError ZeroDivisionError "
    "ArithmeticError OverflowError RuntimeError NotImplementedError AttributeError StopIteration"
).split()
OWN_METHODS = (
    "append clear copy count endswith extend find get index insert isalnum isalpha isdigit islower isspace isupper "
    "items join keys ljust lower lstrip partition pop remove replace reverse rfind rjust rpartition rsplit rstrip "
    "setdefault split splitlines startswith strip update upper values zfill bit_length"
).split()
WORDS_OUT = (
    "type typing typing_extensions enum Enum IntEnum StrEnum Flag IntFlag Generic Protocol ABC ABCMeta namedtuple "
    "NamedTuple TypedDict TYPE_CHECKING abstractmethod"
).split()
NAMES_OUT = "register mro elements open input version_info with_traceback add_note format format_map".split()


def walk(kind):
    return [(path, node) for path, tree in TREES.items() for node in ast.walk(tree) if isinstance(node, kind)]


class Files(unittest.TestCase):
    def test_only_plain_files_lie_in_the_package(self):
        there = [path for path in PACKAGE.rglob("*") if "__pycache__" not in path.parts]
        self.assertEqual(sorted(there), FILES)
        for path in FILES:
            self.assertRegex(path.name, r"^([a-z][a-z0-9_]*|__init__)\.py$")
            self.assertNotIn(path.stem, dir(builtins))
        self.assertIn(PACKAGE / "__init__.py", FILES)

    def test_size_and_signs(self):
        for path in FILES:
            text = path.read_text(encoding="utf-8")
            self.assertRegex(text, r"\A[ -~\n]*\Z", path)
            lines = text.splitlines()
            self.assertLessEqual(len(lines), 400, path)
            self.assertLessEqual(max(len(line) for line in lines), 120, path)

    def test_words_that_stand_nowhere(self):
        for path in FILES:
            text = path.read_text(encoding="utf-8")
            self.assertEqual(sorted(set(re.findall(r"\w+", text)) & set(WORDS_OUT)), [], path)
            for part in ("dataclass", "overload", "contextmanager"):
                self.assertNotIn(part, text)

    def test_functions_are_small(self):
        for path, node in walk(ast.FunctionDef):
            self.assertLessEqual(node.end_lineno - node.lineno + 1, 40, node.name)


class Statements(unittest.TestCase):
    def test_only_the_nodes_that_the_language_has(self):
        for path, node in walk(ast.AST):
            self.assertIn(type(node).__name__, NODES, (path, getattr(node, "lineno", 0)))

    def test_values(self):
        for path, node in walk(ast.Constant):
            self.assertIn(type(node.value), (int, str, bool, type(None)), (path, node.lineno))

    def test_by_itself_stands_a_call_alone_but_for_a_files_docstring(self):
        docstrings = [tree.body[0] for tree in TREES.values()]
        for path, node in walk(ast.Expr):
            if node not in docstrings:
                self.assertIsInstance(node.value, ast.Call, (path, node.lineno))

    def test_classes_have_methods_alone(self):
        for path, node in walk(ast.ClassDef):
            self.assertEqual((node.decorator_list, node.keywords), ([], []))
            for part in node.body:
                self.assertIsInstance(part, ast.FunctionDef, (path, part.lineno))

    def test_no_else_behind_a_loop_and_one_target(self):
        for path, node in walk((ast.For, ast.While)):
            self.assertEqual(node.orelse, [], (path, node.lineno))
        for path, node in walk(ast.Assign):
            self.assertEqual(len(node.targets), 1)
            self.assertIsInstance(node.targets[0], (ast.Name, ast.Attribute, ast.Subscript))

    def test_functions_and_comprehensions(self):
        for path, node in walk(ast.FunctionDef):
            self.assertEqual(node.decorator_list, [])
            self.assertEqual((node.args.vararg, node.args.kwarg, node.args.kwonlyargs, node.returns),
                             (None, None, [], None))
        for path, node in walk(ast.ListComp):
            self.assertEqual(len(node.generators), 1)
            self.assertLessEqual(len(node.generators[0].ifs), 1)

    def test_is_beside_none_and_its_like_alone(self):
        for path, node in walk(ast.Compare):
            for sign, right in zip(node.ops, node.comparators):
                if isinstance(sign, (ast.Is, ast.IsNot)):
                    self.assertIsInstance(right, ast.Constant, (path, node.lineno))


class Tops(unittest.TestCase):
    def test_what_stands_at_a_files_top(self):
        for path, tree in TREES.items():
            self.assertIsNotNone(ast.get_docstring(tree), path)
            bound = []
            for node in tree.body[1:]:
                self.assertIsInstance(node, (ast.ImportFrom, ast.Assign, ast.FunctionDef, ast.ClassDef))
                if isinstance(node, ast.Assign):
                    ast.literal_eval(node.value)
                    bound.append(node.targets[0].id)
                elif isinstance(node, ast.ImportFrom):
                    bound += [alias.name for alias in node.names]
                else:
                    bound.append(node.name)
            self.assertEqual(len(bound), len(set(bound)), path)

    def test_imports_are_of_the_packages_own_and_go_round_no_circle(self):
        drawn = {path.stem: [] for path in FILES}
        for path, node in walk(ast.ImportFrom):
            package, name = node.module.split(".")
            self.assertEqual((package, node.level), ("stripcards", 0))
            source = TREES[PACKAGE / (name + ".py")]
            defined = [part.name for part in source.body if isinstance(part, (ast.FunctionDef, ast.ClassDef))]
            defined += [part.targets[0].id for part in source.body if isinstance(part, ast.Assign)]
            for alias in node.names:
                self.assertIn(alias.name, defined)
                self.assertIsNone(alias.asname)
            drawn[path.stem].append(name)
        self.assertEqual(drawn["__init__"], [])
        while drawn:
            free = [name for name in drawn if not any(other in drawn for other in drawn[name])]
            self.assertNotEqual(free, [], "files draw from one another")
            for name in free:
                drawn.pop(name)


class Names(unittest.TestCase):
    def test_names(self):
        for path, node in walk(ast.Name):
            self.assertRegex(node.id, r"^[A-Za-z][A-Za-z0-9_]*$")
            self.assertNotIn(node.id, NAMES_OUT)
            if node.id in dir(builtins):
                self.assertIn(node.id, OWN_NAMES, (path, node.lineno))
                self.assertIsInstance(node.ctx, ast.Load, (path, node.lineno))

    def test_names_of_parameters_and_functions(self):
        for path, tree in TREES.items():
            tops = [node.name for node in tree.body if isinstance(node, ast.ClassDef)]
            tops += [alias.name for node in tree.body if isinstance(node, ast.ImportFrom) for alias in node.names]
            names = [node.arg for node in ast.walk(tree) if isinstance(node, ast.arg)]
            names += [node.id for node in ast.walk(tree) if isinstance(node, ast.Name) and isinstance(node.ctx, ast.Store)]
            functions = [node.name for node in ast.walk(tree) if isinstance(node, (ast.FunctionDef, ast.ClassDef))]
            self.assertEqual(sorted(set(names) & set(tops)), [], path)
            for name in names + functions:
                self.assertNotIn(name, dir(builtins))
                self.assertNotIn(name, NAMES_OUT)
                self.assertTrue(name == "__init__" or not name.startswith("_"), name)

    def test_methods_and_values(self):
        methods = {part.name for path, node in walk(ast.ClassDef) for part in node.body}
        values = {node.attr for path, node in walk(ast.Attribute) if isinstance(node.ctx, ast.Store)}
        self.assertEqual(sorted(methods & values), [])
        python_own = {name for kind in (str, int, list, dict, set, tuple, bytes) for name in dir(kind)}
        self.assertEqual(sorted((methods | values) & python_own), ["__init__"])
        for path, node in walk(ast.Attribute):
            self.assertIn(node.attr, methods | values | set(OWN_METHODS), (path, node.lineno))


if __name__ == "__main__":
    unittest.main()
