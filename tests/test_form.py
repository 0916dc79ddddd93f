"""The form of the package's own files, as far as it can be seen from their text."""

import ast
import builtins
import pathlib
import re
import unittest

PACKAGE = pathlib.Path(__file__).resolve().parent.parent / "linelaid"
FILES = sorted(path for path in PACKAGE.rglob("*") if "__pycache__" not in path.parts)

ALLOWED = {
    "len", "range", "enumerate", "zip", "min", "max", "sum", "abs", "sorted", "reversed", "int", "str", "bool", "list",
    "tuple", "dict", "set", "isinstance", "any", "all", "divmod", "NotImplementedError", "ValueError", "KeyError",
}
METHODS = {
    "append", "clear", "copy", "count", "endswith", "extend", "find", "get", "index", "insert", "items", "join", "keys",
    "pop", "remove", "replace", "reverse", "setdefault", "split", "startswith", "strip", "update", "values",
}
FORBIDDEN_NODES = (
    ast.With, ast.Match, ast.Delete, ast.Global, ast.Nonlocal, ast.Assert, ast.Yield, ast.YieldFrom, ast.Await,
    ast.AsyncFunctionDef, ast.AsyncFor, ast.AsyncWith, ast.SetComp, ast.DictComp, ast.GeneratorExp, ast.NamedExpr,
    ast.Starred, ast.Div, ast.Import, ast.Set, ast.AnnAssign,
)
FORBIDDEN_WORDS = re.compile(
    r"\b(type|typing|typing_extensions|enum|Enum|IntEnum|StrEnum|Flag|IntFlag|Generic|Protocol|ABC|ABCMeta|namedtuple"
    r"|NamedTuple|TypedDict|TYPE_CHECKING|abstractmethod)\b|dataclass|overload|contextmanager")


class Form(unittest.TestCase):
    def trees(self):
        for path in FILES:
            yield path.name, ast.parse(path.read_text(encoding="ascii"))

    def test_only_plainly_named_python_files(self):
        self.assertIn("stations.py", [path.name for path in FILES])
        for path in FILES:
            self.assertRegex(path.name, r"^([a-z][a-z0-9_]*|__init__|__main__)\.py$")
            self.assertNotRegex(path.name, r"^(test|conftest|site)")

    def test_sizes_signs_and_words(self):
        for path in FILES:
            text = path.read_text(encoding="ascii")
            rows = text.split("\n")
            self.assertLessEqual(len(rows), 400, path.name)
            for row in rows:
                self.assertLessEqual(len(row), 120, (path.name, row))
                self.assertTrue(all(" " <= sign <= "~" for sign in row), (path.name, row))
            self.assertNotRegex(text, FORBIDDEN_WORDS)

    def test_statements_and_values(self):
        for name, tree in self.trees():
            for node in ast.walk(tree):
                where = (name, getattr(node, "lineno", 0))
                self.assertNotIsInstance(node, FORBIDDEN_NODES, where)
                if isinstance(node, ast.Constant):
                    self.assertNotIsInstance(node.value, (float, bytes, complex), where)
                if isinstance(node, ast.Assign):
                    self.assertEqual(len(node.targets), 1, where)
                if isinstance(node, (ast.For, ast.While)):
                    self.assertEqual(node.orelse, [], where)
                if isinstance(node, ast.Compare) and any(isinstance(op, (ast.Is, ast.IsNot)) for op in node.ops):
                    self.assertTrue(all(isinstance(side, ast.Constant) for side in node.comparators), where)

    def test_functions(self):
        for name, tree in self.trees():
            for node in ast.walk(tree):
                if isinstance(node, ast.FunctionDef):
                    where = (name, node.name)
                    self.assertLessEqual(node.end_lineno - node.lineno + 1, 40, where)
                    self.assertEqual((node.decorator_list, node.args.vararg, node.args.kwarg, node.args.kwonlyargs),
                                     ([], None, None, []), where)

    def test_imports_are_the_packages_own(self):
        for name, tree in self.trees():
            for node in ast.walk(tree):
                if isinstance(node, ast.ImportFrom):
                    self.assertEqual(node.level, 0, name)
                    self.assertRegex(node.module, r"^linelaid\.[a-z_]+$", name)
                    self.assertNotIn("*", [alias.name for alias in node.names], name)

    def test_names(self):
        for name, tree in self.trees():
            for node in ast.walk(tree):
                if isinstance(node, ast.Name):
                    if node.id in dir(builtins):
                        self.assertIn(node.id, ALLOWED, (name, node.lineno))
                        self.assertIsInstance(node.ctx, ast.Load, (name, node.lineno))
                    self.assertFalse(node.id.startswith("_"), (name, node.lineno))
                if isinstance(node, ast.arg):
                    self.assertNotIn(node.arg, dir(builtins), (name, node.lineno))

    def test_no_parameter_or_local_is_called_like_an_import_or_a_class(self):
        for name, tree in self.trees():
            taken = {alias.name for node in tree.body if isinstance(node, ast.ImportFrom) for alias in node.names}
            taken |= {node.name for node in tree.body if isinstance(node, ast.ClassDef)}
            for node in ast.walk(tree):
                if isinstance(node, ast.arg):
                    self.assertNotIn(node.arg, taken, (name, node.lineno))
                if isinstance(node, ast.Name) and isinstance(node.ctx, ast.Store):
                    self.assertNotIn(node.id, taken, (name, node.lineno))

    def test_imports_are_from_the_file_that_defines_the_name_and_go_one_way(self):
        defined, drawn = {}, {}
        for name, tree in self.trees():
            module = "linelaid." + name.removesuffix(".py")
            targets = [target.id for node in tree.body if isinstance(node, ast.Assign) for target in node.targets]
            defs = [node.name for node in tree.body if isinstance(node, (ast.FunctionDef, ast.ClassDef))]
            self.assertEqual(len(set(targets + defs)), len(targets + defs), name)
            defined[module] = targets + defs
            drawn[module] = [node for node in tree.body if isinstance(node, ast.ImportFrom)]
        for module, nodes in drawn.items():
            for node in nodes:
                for alias in node.names:
                    self.assertIn(alias.name, defined[node.module], module)
        left = {module: {node.module for node in nodes} for module, nodes in drawn.items()}
        while left:
            ready = [module for module, needs in left.items() if not needs & set(left)]
            self.assertTrue(ready, left)
            left = {module: needs for module, needs in left.items() if module not in ready}

    def test_every_import_is_used(self):
        for name, tree in self.trees():
            used = {node.id for node in ast.walk(tree) if isinstance(node, ast.Name)}
            for node in tree.body:
                if isinstance(node, ast.ImportFrom):
                    self.assertLessEqual({alias.name for alias in node.names}, used, name)

    def test_methods(self):
        own = {node.name for name, tree in self.trees() for node in ast.walk(tree) if isinstance(node, ast.FunctionDef)}
        for name, tree in self.trees():
            for node in ast.walk(tree):
                if isinstance(node, ast.Call) and isinstance(node.func, ast.Attribute):
                    self.assertIn(node.func.attr, METHODS | own, (name, node.lineno))


if __name__ == "__main__":
    unittest.main()
