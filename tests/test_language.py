"""The package keeps to the part of Python that ../shared/LANGUAGE.md tells.

Only what can be seen in a file's tree is looked at here; the numbers are the rules'.
"""

import ast
import builtins
import pathlib
import re
import unittest

PACKAGE = pathlib.Path(__file__).resolve().parent.parent / "farscreen"

NODES = set("""Module Expr Constant ImportFrom alias FunctionDef arguments arg Return ClassDef Assign AugAssign
If While For Break Continue Pass Raise Try ExceptHandler Call Name Attribute Subscript Slice Load Store List Tuple
Dict BinOp Add Sub Mult FloorDiv Mod Pow BitAnd BitOr BitXor LShift RShift UnaryOp USub Not Invert UAdd BoolOp And Or
Compare Eq NotEq Lt LtE Gt GtE In NotIn Is IsNot IfExp ListComp comprehension JoinedStr FormattedValue
Lambda""".split())

NAMES = set("""len range enumerate zip min max sum abs sorted reversed int str bool list tuple dict set frozenset
isinstance ord repr any all divmod Exception ValueError TypeError KeyError IndexError LookupError
ZeroDivisionError ArithmeticError OverflowError RuntimeError NotImplementedError AttributeError StopIteration""".split())

METHODS = set("""append clear copy count endswith extend find get index insert isalnum isalpha isdigit islower isspace
isupper items join keys ljust lower lstrip partition pop remove replace reverse rfind rjust rpartition rsplit rstrip
setdefault split splitlines startswith strip update upper values zfill bit_length""".split())

UNUSED = set("""register mro elements open input version_info with_traceback add_note attrgetter breakpoint compile
copyright credits delattr dir eval exec exit gc getattr globals hasattr help id importlib license locals methodcaller
os quit setattr super vars sys chr format format_map""".split())

WORDS = re.compile(r"\b(type|typing|typing_extensions|enum|Enum|IntEnum|StrEnum|Flag|IntFlag|Generic|Protocol|ABC|"
                   r"ABCMeta|namedtuple|NamedTuple|TypedDict|TYPE_CHECKING|abstractmethod)\b|"
                   r"dataclass|overload|contextmanager")

OF_PYTHON = set().union(*[dir(kind) for kind in (str, int, list, dict, set, bytes, tuple)])


def files():
    return sorted(PACKAGE.rglob("*.py"))


def trees():
    return [(path, ast.parse(path.read_text(encoding="utf-8"))) for path in files()]


def walked(kind):
    return [(path, node) for path, tree in trees() for node in ast.walk(tree) if isinstance(node, kind)]


def bound_names(node):
    """The names that a file binds: parameters, locals, functions, classes and values."""
    if isinstance(node, ast.Name) and isinstance(node.ctx, ast.Store):
        return [node.id]
    if isinstance(node, ast.arg):
        return [node.arg]
    if isinstance(node, (ast.FunctionDef, ast.ClassDef)):
        return [node.name]
    return []


def is_plain(node):
    if isinstance(node, ast.UnaryOp):
        node = node.operand
    if isinstance(node, (ast.Tuple, ast.List)):
        return all(is_plain(part) for part in node.elts)
    if isinstance(node, ast.Dict):
        return all(is_plain(part) for part in node.keys + node.values)
    return isinstance(node, ast.Constant)


class FilesTest(unittest.TestCase):
    def test_the_folder(self):
        names = [path.relative_to(PACKAGE).as_posix() for path in PACKAGE.rglob("*") if "__pycache__" not in path.parts]
        for name in names:
            self.assertRegex(name, r"^([a-z][a-z0-9_]*|__init__|__main__)\.py$")
            self.assertNotIn(name[:-3], dir(builtins))
        self.assertIn("__init__.py", names)

    def test_sizes_and_signs(self):
        for path in files():
            text = path.read_bytes().decode("ascii")
            lines = text.split("\n")
            self.assertLessEqual(len(lines), 400, path)
            self.assertLessEqual(max(map(len, lines)), 120, path)
            self.assertRegex(text, r"\A[ -~\n]*\Z")
            self.assertIsNone(WORDS.search(text), path)

    def test_functions_are_short(self):
        for path, node in walked(ast.FunctionDef):
            self.assertLessEqual(node.end_lineno - node.lineno + 1, 40, (path, node.name))


class FormTest(unittest.TestCase):
    def test_statements_and_expressions(self):
        for path, node in walked(ast.AST):
            self.assertIn(type(node).__name__, NODES, (path, getattr(node, "lineno", 0)))

    def test_constants(self):
        for path, node in walked(ast.Constant):
            self.assertIn(type(node.value), (int, str, bool, type(None)), (path, node.lineno))

    def test_assignments_have_one_target(self):
        for path, node in walked(ast.Assign):
            self.assertEqual(len(node.targets), 1)
            self.assertIsInstance(node.targets[0], (ast.Name, ast.Attribute, ast.Subscript), (path, node.lineno))

    def test_loops_have_no_else(self):
        for path, node in walked((ast.For, ast.While)):
            self.assertEqual(node.orelse, [], (path, node.lineno))

    def test_comprehensions(self):
        for path, node in walked(ast.ListComp):
            self.assertEqual(len(node.generators), 1)
            self.assertLessEqual(len(node.generators[0].ifs), 1, (path, node.lineno))

    def test_powers_are_written(self):
        for path, node in walked(ast.Pow):
            self.fail(path)

    def test_is_stands_beside_none(self):
        for path, node in walked(ast.Compare):
            if isinstance(node.ops[0], (ast.Is, ast.IsNot)):
                self.assertIsInstance(node.comparators[0], ast.Constant, (path, node.lineno))

    def test_parameters_and_decorators(self):
        for path, node in walked((ast.FunctionDef, ast.ClassDef)):
            self.assertEqual(node.decorator_list, [], path)
        for path, node in walked(ast.arguments):
            self.assertEqual((node.vararg, node.kwarg, node.kwonlyargs, node.posonlyargs), (None, None, [], []), path)

    def test_f_strings(self):
        for path, node in walked(ast.FormattedValue):
            self.assertIsInstance(node.value, ast.Name, path)
            self.assertIsNone(node.format_spec, path)

    def test_the_top_of_a_file(self):
        for path, tree in trees():
            self.assertIsInstance(tree.body[0], ast.Expr, path)
            bound = []
            for node in tree.body[1:]:
                self.assertIsInstance(node, (ast.ImportFrom, ast.FunctionDef, ast.ClassDef, ast.Assign), path)
                if isinstance(node, ast.Assign):
                    self.assertTrue(is_plain(node.value), (path, node.lineno))
                    bound.append(node.targets[0].id)
                elif isinstance(node, ast.ImportFrom):
                    bound.extend(name.name for name in node.names)
                else:
                    bound.append(node.name)
            self.assertEqual(len(bound), len(set(bound)), path)

    def test_class_bodies(self):
        for path, node in walked(ast.ClassDef):
            for part in node.body:
                is_text = isinstance(part, ast.Expr) and isinstance(part.value, ast.Constant)
                self.assertTrue(is_text or isinstance(part, ast.FunctionDef), (path, part.lineno))


class NamesTest(unittest.TestCase):
    def test_python_s_own_names(self):
        for path, node in walked(ast.Name):
            if hasattr(builtins, node.id):
                self.assertIn(node.id, NAMES, (path, node.lineno))
            self.assertNotIn(node.id, UNUSED, (path, node.lineno))

    def test_names_that_are_bound(self):
        for path, tree in trees():
            classes = [node.name for node in tree.body if isinstance(node, ast.ClassDef)]
            imports = [name.name for node in tree.body if isinstance(node, ast.ImportFrom) for name in node.names]
            for node in ast.walk(tree):
                for name in bound_names(node):
                    if isinstance(node, ast.FunctionDef) and name == "__init__":
                        continue
                    self.assertRegex(name, r"^[A-Za-z][A-Za-z0-9_]*$")
                    self.assertFalse(hasattr(builtins, name), (path, name))
                    self.assertNotIn(name, imports, path)
                    if not isinstance(node, ast.ClassDef):
                        self.assertNotIn(name, classes, path)

    def test_methods_and_values(self):
        methods = {part.name for path, node in walked(ast.ClassDef) for part in node.body
                   if isinstance(part, ast.FunctionDef)} - {"__init__"}
        values = {node.attr for path, node in walked(ast.Attribute) if isinstance(node.ctx, ast.Store)}
        self.assertEqual(methods & values, set())
        for name in sorted(values):
            self.assertNotIn(name, OF_PYTHON)
        for name in sorted(methods - {"add"}):
            self.assertNotIn(name, OF_PYTHON)
        for path, node in walked(ast.Attribute):
            self.assertIn(node.attr, METHODS | methods | values, (path, node.lineno))
            self.assertNotIn(node.attr, UNUSED, (path, node.lineno))

    def test_imports(self):
        drawn = {}
        for path, tree in trees():
            drawn[path.stem] = []
            for node in tree.body:
                if isinstance(node, ast.ImportFrom):
                    self.assertEqual(node.level, 0)
                    self.assertRegex(node.module, r"^farscreen\.[a-z]+$")
                    source = PACKAGE / (node.module.split(".")[1] + ".py")
                    defined = [name for part in ast.parse(source.read_text()).body for name in self.top_names(part)]
                    for name in node.names:
                        self.assertIsNone(name.asname)
                        self.assertIn(name.name, defined, path)
                    drawn[path.stem].append(source.stem)
        while drawn:
            free = [name for name in drawn if not set(drawn[name]) & set(drawn)]
            self.assertNotEqual(free, [], "files that draw from one another")
            for name in free:
                del drawn[name]

    def top_names(self, node):
        if isinstance(node, ast.Assign):
            return [node.targets[0].id]
        return bound_names(node)


if __name__ == "__main__":
    unittest.main()
