"""The package keeps to the part of Python that it is written in (the rules that can be seen in its files)."""

import ast
import builtins
import re
import tokenize
import unittest
from pathlib import Path

PACKAGE = Path(__file__).resolve().parent.parent / "macromarkup"
INTERFACE = (
    "check", "read", "tokens", "expand", "macros", "counters", "write", "losses", "format_of", "plain_text",
    "is_same", "roman",
)
REFUSALS = ("BadBytes", "TextFault", "TooDeep", "BadNotation", "NotExpressible")

NODES = """
Module Expr Constant ImportFrom alias FunctionDef arguments arg ClassDef Assign AugAssign If While For Return Break
Continue Pass Raise Try ExceptHandler Call Name Load Store Attribute Subscript Slice Tuple List Dict ListComp
comprehension JoinedStr FormattedValue IfExp BoolOp And Or UnaryOp Not USub Invert BinOp Add Sub Mult FloorDiv Mod
Pow BitAnd BitOr BitXor LShift RShift Compare Eq NotEq Lt LtE Gt GtE Is IsNot In NotIn Lambda keyword
""".split()
BUILTINS = """
len range enumerate zip min max sum abs sorted reversed int str bool list tuple dict set frozenset isinstance ord repr
any all divmod Exception ValueError TypeError KeyError IndexError LookupError ZeroDivisionError ArithmeticError
OverflowError RuntimeError NotImplementedError AttributeError StopIteration
""".split()
METHODS = """
append clear copy count endswith extend find get index insert isalnum isalpha isdigit islower isspace isupper items
join keys ljust lower lstrip partition pop remove replace reverse rfind rjust rpartition rsplit rstrip setdefault
split splitlines startswith strip update upper values zfill bit_length
""".split()
NOT_NAMES = """
register mro elements open input version_info with_traceback add_note attrgetter breakpoint builtins compile copyright
credits delattr dir eval exec exit gc getattr globals hasattr help id importlib license locals methodcaller os quit
setattr super type vars sys
""".split()
NOT_WORDS = """
type typing typing_extensions enum Enum IntEnum StrEnum Flag IntFlag Generic Protocol ABC ABCMeta namedtuple NamedTuple
TypedDict TYPE_CHECKING abstractmethod
""".split()
OTHER_VALUES = [set(dir(kind)) for kind in (str, int, list, dict, set, bytes, tuple)]


def trees():
    return [(path, ast.parse(path.read_text("ascii"))) for path in sorted(PACKAGE.glob("*.py"))]


def nodes():
    return [(path, node) for path, tree in trees() for node in ast.walk(tree)]


class Files(unittest.TestCase):
    def test_only_files_of_the_program(self):
        for path in PACKAGE.iterdir():
            if path.name != "__pycache__":
                self.assertRegex(path.name, r"^([a-z][a-z0-9_]*|__init__)\.py$")
                self.assertFalse(path.stem != "__init__" and hasattr(builtins, path.stem), path.name)

    def test_signs_and_sizes(self):
        for path in PACKAGE.glob("*.py"):
            text = path.read_bytes().decode("ascii")
            rows = text.split("\n")
            self.assertLessEqual(len(rows), 400, path.name)
            for row in rows:
                self.assertRegex(row, r"^[ -~]{0,120}$", path.name)

    def test_functions_have_at_most_40_lines(self):
        for path, node in nodes():
            if isinstance(node, ast.FunctionDef):
                self.assertLessEqual(node.end_lineno - node.lineno, 39, (path.name, node.name))

    def test_words_that_stand_nowhere(self):
        for path in PACKAGE.glob("*.py"):
            text = path.read_text("ascii")
            self.assertFalse(set(re.findall(r"\w+", text)) & set(NOT_WORDS), path.name)
            for word in "dataclass", "overload", "contextmanager":
                self.assertNotIn(word, text, path.name)

    def test_texts(self):
        for path in PACKAGE.glob("*.py"):
            with path.open("rb") as file:
                for token in tokenize.tokenize(file.readline):
                    if token.type == tokenize.STRING:
                        self.assertNotIn("%", token.string, path.name)
                        self.assertRegex(token.string, r"""^("|')""", path.name)
                        self.assertNotRegex(token.string.replace("\\\\", ""), r"\\[^nt\"']", path.name)


class Forms(unittest.TestCase):
    def test_only_these_forms(self):
        for path, node in nodes():
            where = (path.name, getattr(node, "lineno", None))
            self.assertIn(node.__class__.__name__, NODES, where)
            if isinstance(node, ast.Constant):
                self.assertIn(node.value.__class__, (int, str, bool, type(None)), where)
            if isinstance(node, ast.Assign):
                self.assertEqual(len(node.targets), 1, where)
            if isinstance(node, (ast.For, ast.While)):
                self.assertFalse(node.orelse, where)
            if isinstance(node, ast.Try):
                self.assertFalse(node.finalbody, where)
            if isinstance(node, ast.ListComp):
                self.assertEqual(len(node.generators), 1, where)
                self.assertLessEqual(len(node.generators[0].ifs), 1, where)
            if isinstance(node, (ast.FunctionDef, ast.ClassDef)):
                self.assertFalse(node.decorator_list, where)
            if isinstance(node, ast.Compare) and isinstance(node.ops[0], (ast.Is, ast.IsNot)):
                self.assertIsInstance(node.comparators[0], ast.Constant, where)
            if isinstance(node, ast.Raise):
                self.assertIsInstance(node.exc, ast.Call, where)
            if isinstance(node, ast.ExceptHandler):
                self.assertIn(node.type.id, REFUSALS, where)

    def test_functions(self):
        for path, node in nodes():
            if isinstance(node, ast.FunctionDef):
                where = (path.name, node.name)
                self.assertIsNone(node.returns, where)
                self.assertFalse(node.args.vararg or node.args.kwarg or node.args.kwonlyargs, where)
                self.assertFalse(node.args.posonlyargs or node.args.defaults, where)
                self.assertFalse([arg for arg in node.args.args if arg.annotation], where)

    def test_the_top_of_a_file(self):
        for path, tree in trees():
            names = []
            self.assertIsNotNone(ast.get_docstring(tree), path.name)
            for node in tree.body[1:]:
                where = (path.name, node.lineno)
                self.assertIsInstance(node, (ast.ImportFrom, ast.FunctionDef, ast.ClassDef, ast.Assign), where)
                if isinstance(node, ast.Assign):
                    names.append(node.targets[0].id)
                    for part in ast.walk(node.value):
                        allowed = (ast.Constant, ast.Tuple, ast.List, ast.Dict, ast.Name, ast.Load)
                        self.assertIsInstance(part, allowed, where)
                elif isinstance(node, ast.ImportFrom):
                    names.extend([name.name for name in node.names])
                else:
                    names.append(node.name)
            self.assertEqual(len(names), len(set(names)), path.name)

    def test_classes(self):
        methods, values = set(), set()
        for path, node in nodes():
            if isinstance(node, ast.ClassDef):
                for part in node.body:
                    self.assertIsInstance(part, (ast.FunctionDef, ast.Expr), (path.name, node.name))
                    if isinstance(part, ast.FunctionDef):
                        self.assertTrue(part.name == "__init__" or not part.name.startswith("_"), part.name)
                        methods.add(part.name)
            if isinstance(node, ast.Attribute) and isinstance(node.ctx, ast.Store):
                values.add(node.attr)
        self.assertFalse(methods & values)
        for name in (methods | values) - {"__init__"}:
            self.assertFalse([1 for kept in OTHER_VALUES if name in kept], name)


class Names(unittest.TestCase):
    def test_imports(self):
        drawn = {}
        for path, tree in trees():
            drawn[path.stem] = set()
            for node in ast.walk(tree):
                if isinstance(node, ast.ImportFrom):
                    self.assertRegex(node.module, r"^macromarkup\.[a-z]+$", path.name)
                    drawn[path.stem].add(node.module.split(".")[1])
                    source = ast.parse((PACKAGE / (node.module.split(".")[1] + ".py")).read_text("ascii"))
                    made = [part.name for part in source.body if isinstance(part, (ast.FunctionDef, ast.ClassDef))]
                    made += [part.targets[0].id for part in source.body if isinstance(part, ast.Assign)]
                    for name in node.names:
                        self.assertIn(name.name, made, path.name)
                        self.assertIsNone(name.asname, path.name)
        while drawn:
            free = [name for name in drawn if not drawn[name]]
            self.assertTrue(free, drawn)
            drawn = {name: drawn[name] - set(free) for name in drawn if name not in free}

    def test_imported_names_are_used(self):
        for path, tree in trees():
            used = {node.id for node in ast.walk(tree) if isinstance(node, ast.Name)}
            for node in tree.body:
                if isinstance(node, ast.ImportFrom):
                    self.assertFalse({name.name for name in node.names} - used, path.name)

    def test_functions_of_the_interface(self):
        for path, tree in trees():
            made = [node.name for node in tree.body if isinstance(node, (ast.FunctionDef, ast.ClassDef))]
            for name in INTERFACE:
                self.assertEqual(name in made, path.stem == "markup", (path.name, name))

    def test_names(self):
        for path, tree in trees():
            top = {"macromarkup"}
            for node in tree.body:
                if isinstance(node, ast.ClassDef):
                    top.add(node.name)
                if isinstance(node, ast.ImportFrom):
                    top |= {name.name for name in node.names}
            for node in ast.walk(tree):
                where = (path.name, getattr(node, "lineno", None))
                if isinstance(node, ast.Name):
                    self.check_name(node.id, where)
                    if isinstance(node.ctx, ast.Store):
                        self.assertNotIn(node.id, top, where)
                        self.assertFalse(hasattr(builtins, node.id), where)
                    elif hasattr(builtins, node.id):
                        self.assertIn(node.id, BUILTINS, where)
                if isinstance(node, ast.arg):
                    self.check_name(node.arg, where)
                    self.assertNotIn(node.arg, top, where)
                    self.assertFalse(hasattr(builtins, node.arg), where)
                if isinstance(node, ast.Attribute):
                    self.check_name(node.attr, where)
                    known = [1 for kept in OTHER_VALUES if node.attr in kept]
                    self.assertTrue(not known or node.attr in METHODS, where)
                if isinstance(node, (ast.FunctionDef, ast.ClassDef)) and node.name != "__init__":
                    self.check_name(node.name, where)
                    self.assertFalse(hasattr(builtins, node.name), where)

    def check_name(self, name, where):
        self.assertRegex(name, r"^[A-Za-z][A-Za-z0-9_]*$", where)
        self.assertNotIn(name, NOT_NAMES, where)

    def test_walked_at_once(self):
        for path, tree in trees():
            allowed = set()
            for node in ast.walk(tree):
                if isinstance(node, (ast.For, ast.comprehension)):
                    allowed.add(node.iter)
                if isinstance(node, ast.Call) and isinstance(node.func, ast.Name) and node.args:
                    if node.func.id in ("list", "tuple", "dict", "sorted", "sum", "any", "all", "enumerate", "zip"):
                        allowed.add(node.args[0])
            for node in ast.walk(tree):
                if isinstance(node, ast.Call):
                    name = node.func.id if isinstance(node.func, ast.Name) else node.func.attr
                    if name in ("zip", "enumerate", "reversed", "range", "items", "keys", "values"):
                        self.assertIn(node, allowed, (path.name, node.lineno))

    def test_tables_at_the_top_are_only_read(self):
        tables = set()
        for path, tree in trees():
            for node in tree.body:
                if isinstance(node, ast.Assign) and isinstance(node.value, (ast.Dict, ast.List, ast.Tuple)):
                    tables.add(node.targets[0].id)
                    inner = [part for part in ast.walk(node.value) if part is not node.value]
                    self.assertFalse([part for part in inner if isinstance(part, (ast.Dict, ast.List))])
        for path, tree in trees():
            read = set()
            for node in ast.walk(tree):
                if isinstance(node, ast.Compare):
                    read |= set(node.comparators)
                if isinstance(node, (ast.For, ast.comprehension)):
                    read.add(node.iter)
                if isinstance(node, ast.Subscript) and isinstance(node.ctx, ast.Load):
                    read.add(node.value)
                if isinstance(node, ast.Call) and isinstance(node.func, ast.Name) and node.func.id in ("len", "list"):
                    read |= set(node.args)
            for node in ast.walk(tree):
                if isinstance(node, ast.Name) and node.id in tables and isinstance(node.ctx, ast.Load):
                    self.assertIn(node, read, (path.name, node.lineno))


if __name__ == "__main__":
    unittest.main()
