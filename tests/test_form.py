"""The form of the package's code, as far as a short test can see it."""

import ast
import builtins
import pathlib
import unittest

PACKAGE = pathlib.Path(__file__).resolve().parent.parent / "untold"
BUILTINS = {
    "len", "range", "enumerate", "zip", "min", "max", "sum", "abs", "sorted", "reversed", "int", "str", "bool",
    "list", "tuple", "dict", "set", "isinstance", "ord", "repr", "any", "all", "divmod",
}
METHODS = {"append", "extend", "get", "items", "keys", "values", "join", "split", "pop", "index", "count", "replace",
           "startswith"}
LIBRARY = {"heapq", "math", "itertools", "collections"}
STATEMENTS = (
    ast.Assign, ast.AugAssign, ast.If, ast.While, ast.For, ast.Return, ast.Break, ast.Continue, ast.Pass, ast.Raise,
    ast.Assert, ast.Try, ast.Expr, ast.ImportFrom, ast.FunctionDef, ast.ClassDef,
)


def files():
    return sorted(path for path in PACKAGE.rglob("*") if path.is_file() and "__pycache__" not in path.parts)


def nodes(path):
    return list(ast.walk(ast.parse(path.read_text(encoding="utf-8"))))


class Form(unittest.TestCase):
    def test_files_and_characters(self):
        self.assertGreater(len(files()), 5)
        for path in files():
            self.assertRegex(path.name, r"^[a-z_][a-z0-9_]*\.py$")
            text = path.read_text(encoding="utf-8")
            self.assertTrue(all(sign == "\n" or " " <= sign <= "~" for sign in text), path)
            self.assertTrue(text.endswith("\n") and not text.endswith("\n\n"), path)

    def test_sizes(self):
        for path in files():
            lines = path.read_text(encoding="utf-8").splitlines()
            self.assertLessEqual(len(lines), 399, path)
            self.assertLessEqual(max(len(line) for line in lines), 120, path)
            for node in nodes(path):
                if isinstance(node, ast.FunctionDef):
                    self.assertLessEqual(node.end_lineno - node.lineno + 1, 40, (path, node.name))
                    self.assertTrue(ast.get_docstring(node) or node.name == "__init__", (path, node.name))

    def test_imports(self):
        for path in files():
            for node in nodes(path):
                self.assertNotIsInstance(node, ast.Import, path)
                if isinstance(node, ast.ImportFrom):
                    self.assertEqual(node.level, 0, path)
                    self.assertIn(node.module.split(".")[0], LIBRARY | {"untold"}, path)

    def test_statements(self):
        for path in files():
            for node in nodes(path):
                if isinstance(node, ast.stmt):
                    self.assertIsInstance(node, STATEMENTS, (path, node.lineno))

    def test_no_floats_and_no_free_exponents(self):
        for path in files():
            for node in nodes(path):
                self.assertNotIsInstance(node, ast.Div, path)
                if isinstance(node, ast.Constant):
                    self.assertNotIsInstance(node.value, (float, complex), path)
                if isinstance(node, ast.BinOp) and isinstance(node.op, ast.Pow):
                    self.assertIsInstance(node.right, ast.Constant, (path, node.lineno))

    def test_strings_have_no_percent_sign(self):
        for path in files():
            for node in nodes(path):
                if isinstance(node, ast.Constant) and isinstance(node.value, str):
                    self.assertNotIn("%", node.value, path)

    def test_calls(self):
        methods = METHODS | {"__init__"}
        for path in files():
            for one in nodes(path):
                if isinstance(one, ast.ClassDef):
                    methods |= {node.name for node in one.body if isinstance(node, ast.FunctionDef)}
        for path in files():
            tree = nodes(path)
            own = {node.name for node in tree if isinstance(node, (ast.FunctionDef, ast.ClassDef))}
            own |= {alias.name for node in tree if isinstance(node, ast.ImportFrom) for alias in node.names}
            for node in tree:
                if isinstance(node, ast.Call) and isinstance(node.func, ast.Name):
                    self.assertIn(node.func.id, BUILTINS | own, (path, node.lineno))
                if isinstance(node, ast.Call) and isinstance(node.func, ast.Attribute):
                    self.assertIn(node.func.attr, methods, (path, node.lineno))

    def test_no_local_name_is_that_of_an_import_or_a_builtin(self):
        for path in files():
            tree = nodes(path)
            taken = {alias.name for node in tree if isinstance(node, ast.ImportFrom) for alias in node.names}
            for node in tree:
                name = node.arg if isinstance(node, ast.arg) else None
                if isinstance(node, ast.Name) and isinstance(node.ctx, ast.Store):
                    name = node.id
                if isinstance(node, ast.FunctionDef) and not node.name.startswith("__"):
                    name = node.name
                if name is not None:
                    self.assertNotIn(name, taken, (path, node.lineno))
                    self.assertFalse(hasattr(builtins, name), (path, node.lineno, name))

    def test_no_two_files_import_from_each_other(self):
        imports = {}
        for path in files():
            sources = [node.module for node in nodes(path) if isinstance(node, ast.ImportFrom)]
            imports[path.stem] = {source.split(".")[1] for source in sources if source.startswith("untold.")}
        while imports:
            free = [stem for stem, needed in imports.items() if not needed & set(imports)]
            self.assertTrue(free, imports)
            for stem in free:
                del imports[stem]
