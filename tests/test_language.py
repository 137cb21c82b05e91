"""The package's files: where they lie, what they import, and the forms that can be seen from outside."""

import ast
import pathlib
import re
import unittest

PACKAGE = pathlib.Path(__file__).resolve().parent.parent / "kilnloads"

STATEMENTS = (ast.FunctionDef, ast.ClassDef, ast.ImportFrom, ast.Assign, ast.AugAssign, ast.If, ast.While, ast.For,
              ast.Return, ast.Break, ast.Continue, ast.Pass, ast.Raise, ast.Try, ast.Expr)

LEFT_OUT = (ast.SetComp, ast.DictComp, ast.GeneratorExp, ast.NamedExpr, ast.Starred, ast.Div, ast.MatMult, ast.Set,
            ast.Await, ast.Yield, ast.YieldFrom)

# Python's own names that the package may use.
OWN_NAMES = set("""len range enumerate zip min max sum abs sorted reversed int str bool list tuple dict set frozenset
isinstance ord repr any all divmod
Exception ValueError KeyError IndexError LookupError ZeroDivisionError ArithmeticError OverflowError RuntimeError
NotImplementedError StopIteration""".split())

# Values of objects that may be called like a method of Python's own values.
SHARED_VALUES = set("count index title find get join lower upper split strip copy add".split())

# What is walked on the spot and not kept, and the calls in which it may stand.
WALKED = {"zip", "enumerate", "reversed", "range"}
WALKERS = {"list", "tuple", "dict", "sorted", "sum", "any", "all", "enumerate", "zip", "min", "max"}

METHODS = set("""append clear copy count endswith extend find get index insert items join keys pop remove replace
reverse setdefault split startswith strip update values bit_length""".split())

WORDS = re.compile(r"\b(type|typing|typing_extensions|enum|Enum|IntEnum|StrEnum|Flag|IntFlag|Generic|Protocol|ABC"
                   r"|ABCMeta|namedtuple|NamedTuple|TypedDict|TYPE_CHECKING|abstractmethod)\b"
                   r"|dataclass|overload|contextmanager")


def sources():
    return sorted(path for path in PACKAGE.rglob("*") if path.is_file() and path.suffix != ".pyc")


def bound_names(tree):
    """The names that the file itself gives: defs, classes, imports, parameters, locals."""
    names = set()
    for node in ast.walk(tree):
        if isinstance(node, (ast.FunctionDef, ast.ClassDef)):
            names.add(node.name)
        elif isinstance(node, ast.arg):
            names.add(node.arg)
        elif isinstance(node, ast.alias):
            names.add(node.name)
        elif isinstance(node, ast.ExceptHandler) and node.name:
            names.add(node.name)
        elif isinstance(node, ast.Name) and isinstance(node.ctx, ast.Store):
            names.add(node.id)
    return names


def top_names(tree):
    """The names that a file's top defines: functions, classes and plain values."""
    names = [node.name for node in tree.body if isinstance(node, (ast.FunctionDef, ast.ClassDef))]
    return names + [node.targets[0].id for node in tree.body if isinstance(node, ast.Assign)]


def drawn_from(tree):
    return [node.module for node in tree.body if isinstance(node, ast.ImportFrom)]


class Files(unittest.TestCase):
    def test_only_plain_python_files(self):
        self.assertIn(PACKAGE / "__init__.py", sources())
        for path in sources():
            self.assertEqual(path.parent, PACKAGE)
            self.assertRegex(path.name, r"^(__init__|[a-z][a-z0-9_]*)\.py$")
            self.assertNotRegex(path.name, r"^test")

    def test_size_and_signs(self):
        for path in sources():
            rows = path.read_text(encoding="utf-8").split("\n")
            self.assertLessEqual(len(rows), 401, path)
            for row in rows:
                self.assertLessEqual(len(row), 120, path)
                self.assertRegex(row, r"^[ -~]*$", path)
                self.assertIsNone(WORDS.search(row), row)


class Forms(unittest.TestCase):
    def setUp(self):
        self.trees = [(path, ast.parse(path.read_text(encoding="utf-8"))) for path in sources()]

    def nodes(self, *kinds):
        return [(path, node) for path, tree in self.trees for node in ast.walk(tree) if isinstance(node, kinds)]

    def test_statements(self):
        for path, node in self.nodes(ast.stmt):
            self.assertIsInstance(node, STATEMENTS, (path, node.lineno))
        for path, node in self.nodes(*LEFT_OUT):
            self.fail((path, ast.dump(node)))
        for path, node in self.nodes(ast.While, ast.For):
            self.assertEqual(node.orelse, [], (path, node.lineno))
        for path, node in self.nodes(ast.Assign):
            self.assertEqual(len(node.targets), 1, (path, node.lineno))

    def test_values(self):
        for path, node in self.nodes(ast.Constant):
            self.assertIsInstance(node.value, (int, str, bool, type(None)), (path, node.lineno))

    def test_functions(self):
        for path, node in self.nodes(ast.FunctionDef):
            self.assertLessEqual(node.end_lineno - node.lineno + 1, 40, (path, node.name))
            self.assertEqual(node.decorator_list, [], (path, node.name))
            self.assertIsNone(node.args.vararg or node.args.kwarg, (path, node.name))
            self.assertEqual(node.args.kwonlyargs + node.args.posonlyargs, [], (path, node.name))

    def test_imports_are_the_packages_own(self):
        self.assertEqual(self.nodes(ast.Import), [])
        modules = {"kilnloads." + path.stem: tree for path, tree in self.trees}
        for path, node in self.nodes(ast.ImportFrom):
            self.assertEqual(node.level, 0, path)
            self.assertIn(node.module, modules, path)
            for name in node.names:
                self.assertIsNone(name.asname, path)
                self.assertIn(name.name, top_names(modules[node.module]), path)

    def test_imports_go_one_way(self):
        left = {"kilnloads." + path.stem: set(drawn_from(tree)) for path, tree in self.trees}
        while left:
            free = {module for module, others in left.items() if not others & set(left)}
            self.assertNotEqual(free, set(), left)
            left = {module: others for module, others in left.items() if module not in free}

    def test_each_name_of_the_top_once(self):
        for path, tree in self.trees:
            names = top_names(tree) + [name.name for node in tree.body if isinstance(node, ast.ImportFrom)
                                       for name in node.names]
            self.assertEqual(len(names), len(set(names)), path)
            taken = {name for name in names if name not in top_names(tree)}
            taken |= {node.name for node in tree.body if isinstance(node, ast.ClassDef)}
            for node in ast.walk(tree):
                if isinstance(node, ast.arg):
                    self.assertNotIn(node.arg, taken, path)
                elif isinstance(node, ast.Name) and isinstance(node.ctx, ast.Store):
                    self.assertNotIn(node.id, taken, path)

    def test_names(self):
        builtin = set(dir(__builtins__) if not isinstance(__builtins__, dict) else __builtins__)
        for path, tree in self.trees:
            bound = bound_names(tree)
            self.assertEqual(bound & builtin, set(), path)
            for name in bound - {"__init__"}:
                self.assertRegex(name, r"^[A-Za-z][A-Za-z0-9_]*$", path)
            for node in ast.walk(tree):
                if isinstance(node, ast.Name):
                    self.assertIn(node.id, bound | OWN_NAMES, (path, node.lineno))

    def test_methods(self):
        own = {node.name for path, node in self.nodes(ast.FunctionDef)}
        for path, node in self.nodes(ast.Call):
            if isinstance(node.func, ast.Attribute):
                self.assertIn(node.func.attr, METHODS | own, (path, node.lineno))

    def test_values_of_objects(self):
        own = {name for kind in (str, int, list, dict, set, bytes) for name in dir(kind)} - SHARED_VALUES
        for path, node in self.nodes(ast.Attribute):
            if isinstance(node.ctx, ast.Store):
                self.assertNotIn(node.attr, own, (path, node.lineno))

    def test_walked_on_the_spot(self):
        allowed = set()
        for path, node in self.nodes(ast.For, ast.comprehension):
            allowed.add(node.iter)
        for path, node in self.nodes(ast.Call):
            if isinstance(node.func, ast.Name) and node.func.id in WALKERS:
                allowed |= set(node.args)
        for path, node in self.nodes(ast.Call):
            if isinstance(node.func, ast.Name) and node.func.id in WALKED:
                self.assertIn(node, allowed, (path, node.lineno))

    def test_is_and_errors(self):
        for path, node in self.nodes(ast.Compare):
            for sign, other in zip(node.ops, node.comparators):
                if isinstance(sign, (ast.Is, ast.IsNot)):
                    self.assertIsInstance(other, ast.Constant, (path, node.lineno))
        own = {node.name for path, node in self.nodes(ast.ClassDef)}
        for path, node in self.nodes(ast.ExceptHandler):
            self.assertIn(getattr(node.type, "id", None), own, (path, node.lineno))


if __name__ == "__main__":
    unittest.main()
