"""The package's files keep to the small part of Python that the program is written in, as far as a walk can tell."""

import ast
import builtins
import pathlib
import re
import unittest

PACKAGE = pathlib.Path(__file__).resolve().parent.parent / "waitchains"
BUILT_IN = [name for name in dir(builtins) if not name.startswith("_")]
FILES = sorted(path for path in PACKAGE.rglob("*") if "__pycache__" not in path.parts)

OWN_NAMES = set(
    "len range enumerate zip min max sum abs sorted reversed int str bool list tuple dict set isinstance ord repr"
    " any all divmod Exception ValueError KeyError ZeroDivisionError StopIteration".split()
)
METHODS = set(
    "append clear copy count endswith extend find get index insert isalnum isalpha isdigit islower isspace isupper"
    " items join keys ljust lower lstrip partition pop remove replace reverse rfind rjust rpartition rsplit rstrip"
    " setdefault split splitlines startswith strip update upper values zfill bit_length".split()
)
WORDS = re.compile(
    r"\b(type|typing|typing_extensions|enum|Enum|IntEnum|StrEnum|Flag|IntFlag|Generic|Protocol|ABC|ABCMeta"
    r"|namedtuple|NamedTuple|TypedDict|TYPE_CHECKING|abstractmethod)\b|dataclass|overload|contextmanager"
)
NODES = (
    ast.Module, ast.Expr, ast.Constant, ast.ImportFrom, ast.alias, ast.FunctionDef, ast.ClassDef, ast.arguments,
    ast.arg, ast.Assign, ast.AugAssign, ast.If, ast.While, ast.For, ast.Return, ast.Break, ast.Continue, ast.Pass,
    ast.Name, ast.Attribute, ast.Subscript, ast.Slice, ast.Call, ast.List, ast.Tuple, ast.Dict, ast.ListComp,
    ast.comprehension, ast.BinOp, ast.UnaryOp, ast.BoolOp, ast.Compare, ast.IfExp, ast.expr_context, ast.boolop,
    ast.unaryop, ast.cmpop, ast.Add, ast.Sub, ast.Mult, ast.FloorDiv, ast.Mod,
)
TOP = (ast.Expr, ast.ImportFrom, ast.FunctionDef, ast.ClassDef, ast.Assign)


# Values of Python's own that are walked where they stand, and where that may be.
WALKED = ("range", "enumerate", "zip", "reversed")
WALKERS = ("list", "tuple", "dict", "sorted", "sum", "any", "all", "enumerate", "zip", "min", "max")
NOT_OBJECT_VALUES = (
    "items keys values pop update append clear extend insert remove reverse setdefault sort args encode format".split()
)


def trees():
    return [(path.name, ast.parse(path.read_text())) for path in FILES]


def walked(kind):
    return [(name, node) for name, tree in trees() for node in ast.walk(tree) if isinstance(node, kind)]


class Language(unittest.TestCase):
    def test_files(self):
        self.assertIn("desk.py", [path.name for path in FILES])
        for path in FILES:
            self.assertRegex(path.name, r"^(__init__|[a-z][a-z0-9_]*)\.py$")
            self.assertNotIn(path.stem, BUILT_IN)

    def test_signs_and_sizes(self):
        for path in FILES:
            lines = path.read_bytes().decode("ascii").split("\n")
            self.assertLessEqual(len(lines), 400, path.name)
            for line in lines:
                self.assertRegex(line, r"^[ -~]{0,120}$", path.name)
                self.assertNotRegex(line, WORDS, path.name)
        for name, node in walked(ast.FunctionDef):
            self.assertLessEqual(node.end_lineno - node.lineno + 1, 40, (name, node.name))

    def test_statements_and_expressions(self):
        for name, tree in trees():
            for node in tree.body:
                self.assertIsInstance(node, TOP, (name, node.lineno))
            for node in ast.walk(tree):
                self.assertIsInstance(node, NODES, (name, getattr(node, "lineno", 0)))
            for node in tree.body[1:]:
                self.assertNotIsInstance(node, ast.Expr, (name, node.lineno))
        for name, node in walked((ast.FunctionDef, ast.ClassDef, ast.If, ast.While, ast.For)):
            for statement in node.body:
                if isinstance(statement, ast.Expr):
                    self.assertIsInstance(statement.value, ast.Call, (name, statement.lineno))
        for name, node in walked((ast.While, ast.For)):
            self.assertEqual(node.orelse, [], (name, node.lineno))
        for name, node in walked(ast.Assign):
            self.assertEqual(len(node.targets), 1, (name, node.lineno))
            self.assertNotIsInstance(node.targets[0], (ast.Tuple, ast.List), (name, node.lineno))

    def test_functions(self):
        for name, node in walked((ast.FunctionDef, ast.ClassDef)):
            self.assertEqual(node.decorator_list, [], (name, node.name))
        for name, node in walked(ast.arguments):
            self.assertEqual((node.vararg, node.kwarg, node.kwonlyargs, node.posonlyargs), (None, None, [], []), name)

    def test_imports(self):
        modules = ["waitchains." + path.stem for path in FILES]
        for name, node in walked(ast.ImportFrom):
            self.assertEqual(node.level, 0, name)
            self.assertIn(node.module, modules, name)
            for alias in node.names:
                self.assertNotEqual(alias.name, "*", name)
                self.assertIsNone(alias.asname, name)

    def test_no_circle_of_imports(self):
        drawn = {"waitchains." + path.stem: set() for path in FILES}
        for name, node in walked(ast.ImportFrom):
            drawn["waitchains." + name[:-3]].add(node.module)
        while drawn:
            last = [module for module in drawn if not drawn[module] & set(drawn)]
            self.assertNotEqual(last, [], sorted(drawn))
            drawn = {module: drawn[module] for module in drawn if module not in last}

    def test_locals_are_not_called_like_imports_or_classes(self):
        for name, tree in trees():
            taken = {alias.name for node in tree.body if isinstance(node, ast.ImportFrom) for alias in node.names}
            taken |= {node.name for node in tree.body if isinstance(node, ast.ClassDef)}
            top = [node.targets[0].id for node in tree.body if isinstance(node, ast.Assign)]
            top += [node.name for node in tree.body if isinstance(node, ast.FunctionDef)]
            self.assertEqual(taken & set(top), set(), name)
            for node in ast.walk(tree):
                if isinstance(node, ast.arg):
                    self.assertNotIn(node.arg, taken, (name, node.lineno))
                if isinstance(node, ast.Name) and isinstance(node.ctx, ast.Store):
                    self.assertNotIn(node.id, taken, (name, node.lineno))

    def test_no_annotations(self):
        for name, node in walked(ast.FunctionDef):
            self.assertIsNone(node.returns, (name, node.name))
        for name, node in walked(ast.arg):
            self.assertIsNone(node.annotation, (name, node.arg))

    def test_is_stands_beside_none_alone(self):
        for name, node in walked(ast.Compare):
            for operator, other in zip(node.ops, node.comparators):
                if isinstance(operator, (ast.Is, ast.IsNot)):
                    self.assertIsInstance(other, ast.Constant, (name, node.lineno))
                    self.assertIsNone(other.value, (name, node.lineno))

    def test_walked_at_once(self):
        for name, tree in trees():
            allowed = [node.iter for node in ast.walk(tree) if isinstance(node, (ast.For, ast.comprehension))]
            for node in ast.walk(tree):
                if isinstance(node, ast.Call) and isinstance(node.func, ast.Name) and node.func.id in WALKERS:
                    allowed += node.args[:1]
            for node in ast.walk(tree):
                if isinstance(node, ast.Call) and isinstance(node.func, ast.Name) and node.func.id in WALKED:
                    self.assertIn(node, allowed, (name, node.lineno))

    def test_values_of_objects(self):
        for name, node in walked(ast.Attribute):
            if isinstance(node.ctx, ast.Store):
                self.assertIsInstance(node.value, ast.Name, (name, node.lineno))
                self.assertNotIn(node.attr, NOT_OBJECT_VALUES, (name, node.lineno))

    def test_names(self):
        for name, node in walked(ast.Name):
            self.assertRegex(node.id, r"^[A-Za-z]", name)
            if node.id in BUILT_IN:
                self.assertIn(node.id, OWN_NAMES, name)
                self.assertIsInstance(node.ctx, ast.Load, (name, node.id))
        for name, node in walked(ast.arg):
            self.assertNotIn(node.arg, BUILT_IN, name)
        for name, node in walked(ast.FunctionDef):
            self.assertRegex(node.name, r"^([A-Za-z]|__init__$)", name)
            self.assertNotIn(node.name, BUILT_IN, name)

    def test_methods(self):
        own = {node.name for name, node in walked(ast.FunctionDef)}
        for name, node in walked(ast.Call):
            if isinstance(node.func, ast.Attribute):
                self.assertIn(node.func.attr, METHODS | own, (name, node.lineno))

    def test_what_a_file_keeps_is_never_changed(self):
        for name, tree in trees():
            bound = [node.targets[0].id for node in tree.body if isinstance(node, ast.Assign)]
            bound += [node.name for node in tree.body if isinstance(node, (ast.FunctionDef, ast.ClassDef))]
            self.assertEqual(len(bound), len(set(bound)), name)
            for function in [node for node in ast.walk(tree) if isinstance(node, ast.FunctionDef)]:
                for node in ast.walk(function):
                    if isinstance(node, (ast.Subscript, ast.Attribute)) and isinstance(node.ctx, ast.Store):
                        self.assertNotIn(getattr(node.value, "id", None), bound, (name, node.lineno))


if __name__ == "__main__":
    unittest.main()
