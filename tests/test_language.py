"""The package's files keep to the part of Python that the program is written in; the rules' numbers stand by."""

import ast
import builtins
import pathlib
import re
import unittest

PACKAGE = pathlib.Path(__file__).resolve().parent.parent / "chutes"
FILES = sorted(path for path in PACKAGE.rglob("*") if "__pycache__" not in path.parts)

NODES = tuple(getattr(ast, name) for name in """
    Module Expr Constant ImportFrom alias FunctionDef arguments arg ClassDef Return If While For Assign AugAssign
    Break Continue Pass Raise Try ExceptHandler Name Attribute Subscript Slice Call keyword ListComp comprehension
    Lambda Tuple List Dict Set Compare BoolOp UnaryOp BinOp IfExp JoinedStr FormattedValue
    expr_context boolop unaryop cmpop Add Sub Mult FloorDiv Mod Pow BitAnd BitOr BitXor LShift RShift""".split())

BUILTINS = set("""
    len range enumerate zip min max sum abs sorted reversed int str bool list tuple dict set frozenset isinstance ord
    repr any all divmod Exception ValueError TypeError KeyError IndexError LookupError ZeroDivisionError ArithmeticError
    OverflowError RuntimeError NotImplementedError AttributeError StopIteration""".split())

# L25
METHODS = set("""
    append clear copy count endswith extend find get index insert isalnum isalpha isdigit islower isspace isupper items
    join keys ljust lower lstrip partition pop remove replace reverse rfind rjust rpartition rsplit rstrip setdefault
    split splitlines startswith strip update upper values zfill bit_length""".split())

# L26: names of Python's own values, and which of them an own method or an own value may have all the same.
TAKEN = {name for kind in (str, int, list, dict, set, bytes) for name in dir(kind)}
FREE_METHODS = METHODS | {"add", "discard", "__init__", "__eq__", "__repr__", "__str__", "__len__"}
FREE_VALUES = {"count", "index", "title", "find", "get", "join", "lower", "upper", "split", "strip", "copy", "add"}

# L17
WORDS = set("""
    type typing typing_extensions enum Enum IntEnum StrEnum Flag IntFlag Generic Protocol ABC ABCMeta namedtuple
    NamedTuple TypedDict TYPE_CHECKING abstractmethod register mro elements open input version_info with_traceback
    add_note attrgetter breakpoint builtins compile copyright credits delattr dir eval exec exit gc getattr globals
    hasattr help id importlib license locals methodcaller os quit setattr super sys vars""".split())


def own_classes():
    """The methods, and the values, of the package's classes."""
    methods, values = set(), set()
    for path in FILES:
        for node in ast.walk(ast.parse(path.read_text())):
            if isinstance(node, ast.ClassDef):
                methods |= {one.name for one in node.body if isinstance(one, ast.FunctionDef)}
            if isinstance(node, ast.Attribute) and isinstance(node.ctx, ast.Store):
                values.add(node.attr)
    return methods, values


def bound_names(tree):
    """The names that a file binds somewhere."""
    bound = set()
    for node in ast.walk(tree):
        if isinstance(node, ast.Name) and isinstance(node.ctx, ast.Store):
            bound.add(node.id)
        if isinstance(node, (ast.FunctionDef, ast.ClassDef, ast.alias)):
            bound.add(node.name)
        if isinstance(node, ast.arg):
            bound.add(node.arg)
    return bound


class Language(unittest.TestCase):
    def each_node(self, check, *kinds):
        """Check each node of these kinds, in all files."""
        for path in FILES:
            for node in ast.walk(ast.parse(path.read_text())):
                if isinstance(node, kinds):
                    with self.subTest(place=f"{path.name}:{getattr(node, 'lineno', 0)}"):
                        check(node)

    def test_files(self):  # L1 L10 L14 L17
        self.assertIn(PACKAGE / "__init__.py", FILES)
        for path in FILES:
            with self.subTest(file=path.name):
                self.assertRegex(path.name, r"^(__init__|__main__|[a-z][a-z0-9_]*)\.py$")
                self.assertFalse(path.stem.startswith("test") or path.stem in dir(builtins))
                text = path.read_bytes().decode("ascii")
                self.assertRegex(text, r"^[\n -~]*$")
                rows = text.split("\n")
                self.assertLess(len(rows), 400)
                self.assertLessEqual(max(len(row) for row in rows), 120)
                self.assertEqual(set(re.findall(r"\w+", text)) & WORDS, set())
                self.assertIsNone(re.search("dataclass|overload|contextmanager", text))

    def test_nodes(self):  # L4 L6 L7 L20 L21 L27
        def check(node):
            self.assertIsInstance(node, NODES)
            self.assertIsNone(getattr(node, "annotation", None))
            self.assertFalse(getattr(node, "decorator_list", []))
            if isinstance(node, (ast.For, ast.While)):
                self.assertEqual(node.orelse, [])
            if isinstance(node, ast.Assign):
                self.assertEqual(len(node.targets), 1)
            if isinstance(node, ast.ListComp):
                self.assertEqual(len(node.generators), 1)
                self.assertLessEqual(len(node.generators[0].ifs), 1)
            if isinstance(node, ast.Constant):
                self.assertIn(type(node.value), (int, str, bool, type(None)))
                self.assertNotIn("%", str(node.value))
            if isinstance(node, ast.Compare) and any(isinstance(one, (ast.Is, ast.IsNot)) for one in node.ops):
                self.assertIsInstance(node.comparators[0], ast.Constant)

        self.each_node(check, ast.AST)

    def test_functions(self):  # L4 L10
        def check(node):
            self.assertLessEqual(node.end_lineno - node.lineno + 1, 40)
            self.assertIsNone(node.args.vararg or node.args.kwarg or node.returns)
            self.assertEqual(node.args.kwonlyargs + node.args.posonlyargs, [])

        self.each_node(check, ast.FunctionDef)

    def test_tops(self):  # L3 L15
        for path in FILES:
            tree = ast.parse(path.read_text())
            self.assertIsNotNone(ast.get_docstring(tree), path.name)
            names = []
            for node in tree.body[1:]:
                with self.subTest(place=f"{path.name}:{node.lineno}"):
                    self.assertIsInstance(node, (ast.ImportFrom, ast.FunctionDef, ast.ClassDef, ast.Assign))
                    if isinstance(node, ast.ImportFrom):
                        names += [one.name for one in node.names]
                    elif isinstance(node, ast.Assign):
                        names.append(node.targets[0].id)
                        self.assertIsInstance(node.value, (ast.Constant, ast.Tuple, ast.List, ast.Dict))
                    else:
                        names.append(node.name)
            self.assertEqual(len(names), len(set(names)), path.name)

    def test_names(self):  # L8 L12 L15
        for path in FILES:
            tree = ast.parse(path.read_text())
            bound = bound_names(tree)
            used = {node.id for node in ast.walk(tree) if isinstance(node, ast.Name)}
            with self.subTest(file=path.name):
                self.assertEqual(bound & set(dir(builtins)), set())
                self.assertEqual(used - bound - BUILTINS, set())
                self.assertEqual([name for name in bound - FREE_METHODS if name.startswith("_")], [])

    def test_methods_and_values(self):  # L18 L25 L26
        methods, values = own_classes()
        self.assertEqual(methods & values, set())
        self.assertEqual((methods & TAKEN) - FREE_METHODS, set())
        self.assertEqual((values & TAKEN) - FREE_VALUES, set())
        self.each_node(lambda node: self.assertIn(node.attr, METHODS | methods | values), ast.Attribute)

    def test_imports(self):  # L2 L16
        def check(node):
            self.assertRegex(node.module, r"^chutes\.[a-z_]+$")
            self.assertEqual(node.level, 0)
            self.assertEqual([one.asname for one in node.names], [None] * len(node.names))

        self.each_node(check, ast.ImportFrom)

    def test_imports_run_one_way(self):  # L16
        drawn = {}
        for path in FILES:
            for node in ast.walk(ast.parse(path.read_text())):
                if isinstance(node, ast.ImportFrom):
                    drawn.setdefault(path.stem, set()).add(node.module.split(".")[1])
        while drawn:
            ready = [name for name in drawn if not drawn[name] & set(drawn)]
            self.assertNotEqual(ready, [], drawn)
            for name in ready:
                del drawn[name]
