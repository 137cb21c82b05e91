"""The package's files: where they lie, what they import, and the forms that can be seen from outside."""

import ast
import pathlib
import re
import unittest

PACKAGE = pathlib.Path(__file__).resolve().parent.parent / "kilnloads"

STATEMENTS = (ast.FunctionDef, ast.ClassDef, ast.ImportFrom, ast.Assign, ast.AugAssign, ast.If, ast.While, ast.For,
              ast.Return, ast.Break, ast.Continue, ast.Pass, ast.Raise, ast.Try, ast.Expr)

LEFT_OUT = (ast.SetComp, ast.DictComp, ast.GeneratorExp, ast.NamedExpr, ast.Starred, ast.Div, ast.MatMult, ast.Set,
            ast.Await, ast.Yield, ast.YieldFrom)

# Python's own names that the package may use.
OWN_NAMES = set("""len range enumerate zip min max sum abs sorted reversed int str bool list tuple dict set frozenset
isinstance ord repr any all divmod""".split())

METHODS = set("""append clear copy count endswith extend find get index insert items join keys pop remove replace
reverse setdefault split startswith strip update values bit_length""".split())

WORDS = re.compile(r"\b(type|typing|typing_extensions|enum|Enum|IntEnum|StrEnum|Flag|IntFlag|Generic|Protocol|ABC"
                   r"|ABCMeta|namedtuple|NamedTuple|TypedDict|TYPE_CHECKING|abstractmethod)\b"
                   r"|dataclass|overload|contextmanager")


def sources():
    return sorted(path for path in PACKAGE.rglob("*") if path.is_file() and path.suffix != ".pyc")


def bound_names(tree):
    """The names that the file itself gives: defs, classes, imports, parameters, locals."""
    names = set()
    for node in ast.walk(tree):
        if isinstance(node, (ast.FunctionDef, ast.ClassDef)):
            names.add(node.name)
        elif isinstance(node, ast.arg):
            names.add(node.arg)
        elif isinstance(node, ast.alias):
            names.add(node.name)
        elif isinstance(node, ast.Name) and isinstance(node.ctx, ast.Store):
            names.add(node.id)
    return names


class Files(unittest.TestCase):
    def test_only_plain_python_files(self):
        self.assertIn(PACKAGE / "__init__.py", sources())
        for path in sources():
            self.assertEqual(path.parent, PACKAGE)
            self.assertRegex(path.name, r"^(__init__|[a-z][a-z0-9_]*)\.py$")
            self.assertNotRegex(path.name, r"^test")

    def test_size_and_signs(self):
        for path in sources():
            rows = path.read_text(encoding="utf-8").split("\n")
            self.assertLessEqual(len(rows), 401, path)
            for row in rows:
                self.assertLessEqual(len(row), 120, path)
                self.assertRegex(row, r"^[ -~]*$", path)
                self.assertIsNone(WORDS.search(row), row)


class Forms(unittest.TestCase):
    def setUp(self):
        self.trees = [(path, ast.parse(path.read_text(encoding="utf-8"))) for path in sources()]

    def nodes(self, *kinds):
        return [(path, node) for path, tree in self.trees for node in ast.walk(tree) if isinstance(node, kinds)]

    def test_statements(self):
        for path, node in self.nodes(ast.stmt):
            self.assertIsInstance(node, STATEMENTS, (path, node.lineno))
        for path, node in self.nodes(*LEFT_OUT):
            self.fail((path, ast.dump(node)))
        for path, node in self.nodes(ast.While, ast.For):
            self.assertEqual(node.orelse, [], (path, node.lineno))
        for path, node in self.nodes(ast.Assign):
            self.assertEqual(len(node.targets), 1, (path, node.lineno))

    def test_values(self):
        for path, node in self.nodes(ast.Constant):
            self.assertIsInstance(node.value, (int, str, bool, type(None)), (path, node.lineno))

    def test_functions(self):
        for path, node in self.nodes(ast.FunctionDef):
            self.assertLessEqual(node.end_lineno - node.lineno + 1, 40, (path, node.name))
            self.assertEqual(node.decorator_list, [], (path, node.name))
            self.assertIsNone(node.args.vararg or node.args.kwarg, (path, node.name))
            self.assertEqual(node.args.kwonlyargs + node.args.posonlyargs, [], (path, node.name))

    def test_imports_are_the_packages_own(self):
        self.assertEqual(self.nodes(ast.Import), [])
        modules = {"kilnloads." + path.stem: tree for path, tree in self.trees}
        for path, node in self.nodes(ast.ImportFrom):
            self.assertEqual(node.level, 0, path)
            self.assertIn(node.module, modules, path)
            defined = [part.name for part in modules[node.module].body if hasattr(part, "name")]
            for name in node.names:
                self.assertIsNone(name.asname, path)
                self.assertIn(name.name, defined, path)

    def test_names(self):
        builtin = set(dir(__builtins__) if not isinstance(__builtins__, dict) else __builtins__)
        for path, tree in self.trees:
            bound = bound_names(tree)
            self.assertEqual(bound & builtin, set(), path)
            for name in bound - {"__init__"}:
                self.assertRegex(name, r"^[A-Za-z][A-Za-z0-9_]*$", path)
            for node in ast.walk(tree):
                if isinstance(node, ast.Name):
                    self.assertIn(node.id, bound | OWN_NAMES, (path, node.lineno))

    def test_methods(self):
        own = {node.name for path, node in self.nodes(ast.FunctionDef)}
        for path, node in self.nodes(ast.Call):
            if isinstance(node.func, ast.Attribute):
                self.assertIn(node.func.attr, METHODS | own, (path, node.lineno))


if __name__ == "__main__":
    unittest.main()
