"""The form of the package's files, as far as it can be seen without running them."""

import ast
import builtins
import pathlib
import re
import unittest

PACKAGE = pathlib.Path(__file__).resolve().parent.parent / "askedtime"

NODES = """Module FunctionDef ClassDef Return Assign AugAssign For While If Raise Try ExceptHandler ImportFrom Expr
Pass Break Continue BoolOp BinOp UnaryOp Lambda IfExp Dict ListComp comprehension Compare Call Constant JoinedStr
FormattedValue Attribute Subscript Name List Tuple Slice Load Store And Or Add Sub Mult FloorDiv Mod Pow LShift
RShift BitOr BitXor BitAnd Invert Not UAdd USub Eq NotEq Lt LtE Gt GtE Is IsNot In NotIn arguments arg keyword
alias""".split()

PYTHONS = """len range enumerate zip min max sum abs sorted reversed int str bool list tuple dict set frozenset
isinstance ord repr any all divmod Exception ValueError TypeError KeyError IndexError LookupError ZeroDivisionError
ArithmeticError OverflowError RuntimeError NotImplementedError AttributeError StopIteration""".split()

METHODS = """append clear copy count endswith extend find get index insert isalnum isalpha isdigit islower isspace
isupper items join keys ljust lower lstrip partition pop remove replace reverse rfind rjust rpartition rsplit
rstrip setdefault split splitlines startswith strip update upper values zfill bit_length""".split()

WALKED = ("zip", "enumerate", "reversed", "range")
WALKERS = ("list", "tuple", "dict", "sorted", "sum", "any", "all", "enumerate", "zip", "min", "max")

WORDS = re.compile(
    r"\b(type|typing|typing_extensions|enum|Enum|IntEnum|StrEnum|Flag|IntFlag|Generic|Protocol|ABC|ABCMeta|namedtuple"
    r"|NamedTuple|TypedDict|TYPE_CHECKING|abstractmethod)\b|dataclass|overload|contextmanager")

NO_NAMES = """register mro elements open input version_info with_traceback add_note format format_map""".split()


def files():
    return sorted(path for path in PACKAGE.rglob("*") if "__pycache__" not in path.parts)


def trees():
    return [(path.name, ast.parse(path.read_text())) for path in files()]


def nodes(*kinds):
    return [(name, node) for name, tree in trees() for node in ast.walk(tree) if isinstance(node, kinds)]


def own_methods():
    return {part.name for name, node in nodes(ast.ClassDef) for part in node.body if isinstance(part, ast.FunctionDef)}


def own_values():
    return {node.attr for name, node in nodes(ast.Attribute) if isinstance(node.ctx, ast.Store)}


def is_plain(node):
    """Whether a node is a plain value, as a file's top may hold it."""
    if isinstance(node, ast.UnaryOp) and isinstance(node.op, ast.USub):
        node = node.operand
    if isinstance(node, ast.Constant):
        return node.value is None or isinstance(node.value, (int, str))
    if isinstance(node, ast.Dict):
        return all(is_plain(part) for part in node.keys + node.values)
    return isinstance(node, (ast.List, ast.Tuple)) and all(is_plain(part) for part in node.elts)


class Files(unittest.TestCase):
    def test_names_and_signs(self):
        self.assertIn("__init__.py", [path.name for path in files()])
        for path in files():
            self.assertRegex(path.name, r"\A(__init__|__main__|[a-z][a-z0-9_]*)\.py\Z")
            self.assertNotIn(path.stem, dir(builtins))
            self.assertEqual(re.sub(r"[ -~\n]", "", path.read_text()), "", path.name)
            self.assertIsNone(WORDS.search(path.read_text()), path.name)

    def test_sizes(self):
        for path in files():
            rows = path.read_text().split("\n")
            self.assertLessEqual(len(rows), 400)
            self.assertLessEqual(max(len(row) for row in rows), 120)
        for name, node in nodes(ast.FunctionDef):
            self.assertLessEqual(node.end_lineno - node.lineno + 1, 40, (name, node.name))

    def test_the_top(self):
        for name, tree in trees():
            bound = []
            for place, part in enumerate(tree.body):
                if isinstance(part, ast.Expr):
                    self.assertEqual(place, 0, name)
                    self.assertIsInstance(part.value, ast.Constant)
                elif isinstance(part, ast.Assign):
                    self.assertTrue(is_plain(part.value), (name, part.lineno))
                    bound.append(part.targets[0].id)
                elif isinstance(part, ast.ImportFrom):
                    bound.extend(alias.name for alias in part.names)
                else:
                    self.assertIsInstance(part, (ast.FunctionDef, ast.ClassDef))
                    bound.append(part.name)
            self.assertEqual(len(bound), len(set(bound)), name)

    def test_imports(self):
        drawn = {}
        for name, node in nodes(ast.ImportFrom):
            self.assertEqual(node.level, 0)
            self.assertRegex(node.module, r"\Aaskedtime\.\w+\Z")
            source = ast.parse((PACKAGE / (node.module.split(".")[1] + ".py")).read_text())
            made = [part.targets[0].id if isinstance(part, ast.Assign) else part.name for part in source.body
                    if isinstance(part, (ast.Assign, ast.FunctionDef, ast.ClassDef))]
            for alias in node.names:
                self.assertIn(alias.name, made)
                self.assertIsNone(alias.asname)
            drawn.setdefault(name[:-3], set()).add(node.module.split(".")[1])
        while drawn:
            free = [name for name in drawn if not drawn[name] & set(drawn)]
            self.assertTrue(free, "files draw from one another")
            for name in free:
                del drawn[name]


class Forms(unittest.TestCase):
    def test_only_the_forms_that_are_listed(self):
        for name, node in nodes(ast.AST):
            self.assertIn(node.__class__.__name__, NODES, (name, getattr(node, "lineno", 0)))

    def test_values(self):
        for name, node in nodes(ast.Constant):
            self.assertTrue(node.value is None or isinstance(node.value, (int, str)), (name, node.lineno))

    def test_statements(self):
        for name, node in nodes(ast.Assign):
            self.assertEqual(len(node.targets), 1)
        for name, node in nodes(ast.For, ast.While):
            self.assertEqual(node.orelse, [])
        for name, node in nodes(ast.ListComp):
            self.assertEqual(len(node.generators), 1)
            self.assertLessEqual(len(node.generators[0].ifs), 1)
        for name, node in nodes(ast.BinOp):
            if isinstance(node.op, ast.Pow):
                self.assertIn(getattr(node.right, "value", None), range(65))

    def test_functions_and_classes(self):
        for name, node in nodes(ast.arguments):
            self.assertEqual([node.vararg, node.kwarg, node.kwonlyargs, node.posonlyargs], [None, None, [], []])
        for name, node in nodes(ast.FunctionDef, ast.ClassDef):
            self.assertEqual(node.decorator_list, [])
        for name, node in nodes(ast.ClassDef):
            self.assertLessEqual(len(node.bases), 1)
            for place, part in enumerate(node.body):
                self.assertIsInstance(part, ast.FunctionDef if place else (ast.FunctionDef, ast.Expr))
        self.assertEqual(own_methods() & own_values(), set())

    def test_is_stands_beside_none_true_and_false(self):
        for name, node in nodes(ast.Compare):
            for op, right in zip(node.ops, node.comparators):
                if isinstance(op, (ast.Is, ast.IsNot)):
                    self.assertTrue(any(right.value is value for value in (None, True, False)))


class Names(unittest.TestCase):
    def test_pythons_own(self):
        for name, node in nodes(ast.Name):
            if node.id in dir(builtins):
                self.assertIn(node.id, PYTHONS, (name, node.lineno))
                self.assertIsInstance(node.ctx, ast.Load)
        for name, node in nodes(ast.arg):
            self.assertNotIn(node.arg, dir(builtins))

    def test_plain_names(self):
        used = [node.id for name, node in nodes(ast.Name)] + [node.attr for name, node in nodes(ast.Attribute)]
        used += [node.arg for name, node in nodes(ast.arg)]
        used += [node.name for name, node in nodes(ast.FunctionDef, ast.ClassDef)]
        for word in used:
            self.assertRegex(word, r"\A([A-Za-z][A-Za-z0-9_]*|__(init|eq|repr|str|len)__)\Z")
            self.assertNotIn(word, NO_NAMES)

    def test_no_local_is_called_like_a_class_or_an_import(self):
        for name, tree in trees():
            taken = {part.name for part in tree.body if isinstance(part, ast.ClassDef)}
            taken |= {alias.name for part in tree.body if isinstance(part, ast.ImportFrom) for alias in part.names}
            inner = [node for node in ast.walk(tree) if isinstance(node, (ast.Name, ast.arg))]
            bound = {node.arg if isinstance(node, ast.arg) else node.id for node in inner
                     if isinstance(node, ast.arg) or isinstance(node.ctx, ast.Store)}
            self.assertEqual(bound & taken, set(), name)

    def test_methods(self):
        for name, node in nodes(ast.Call):
            if isinstance(node.func, ast.Attribute):
                self.assertIn(node.func.attr, own_methods() | set(METHODS), (name, node.lineno))

    def test_own_values_are_none_of_pythons(self):
        pythons = {word for kind in (str, int, list, dict, set, tuple, bytes) for word in dir(kind)}
        free = "count index title find get join lower upper split strip copy add".split()
        self.assertEqual(own_values() & (pythons - set(free)), set())
        spare = {"__init__", "__eq__", "__repr__", "__str__", "__len__", "add", "discard", *METHODS}
        self.assertEqual(own_methods() & (pythons - spare), set())

    def test_what_is_walked_is_walked_on_the_spot(self):
        for name, tree in trees():
            well = []
            for node in ast.walk(tree):
                if isinstance(node, (ast.For, ast.comprehension)):
                    well.append(node.iter)
                if isinstance(node, ast.Call) and isinstance(node.func, ast.Name) and node.func.id in WALKERS:
                    well.extend(node.args)
            for node in ast.walk(tree):
                if isinstance(node, ast.Call) and isinstance(node.func, ast.Name) and node.func.id in WALKED:
                    self.assertTrue(any(node is one for one in well), (name, node.lineno))
