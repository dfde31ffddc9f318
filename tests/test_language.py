"""Those rules of the language for the package's files that are easily looked through."""

import ast
import builtins
import pathlib
import unittest

FOLDER = pathlib.Path(__file__).resolve().parent.parent / "wayrows"

BUILTINS = {
    "len", "range", "enumerate", "zip", "min", "max", "sum", "abs", "sorted", "reversed", "int",
    "str", "bool", "list", "tuple", "dict", "set", "isinstance", "ord", "repr", "any", "all",
    "divmod", "iter", "next", "map", "super", "property", "NotImplemented", "ValueError",
    "TypeError", "KeyError",
}
LIBRARY = {
    "heapq": {"heappush", "heappop", "heapify", "heapreplace", "heappushpop"},
    "math": {"gcd", "lcm", "isqrt", "comb", "perm", "factorial"},
}
BARRED = (ast.Global, ast.AsyncFunctionDef, ast.AsyncFor, ast.AsyncWith, ast.Await, ast.Import,
          ast.Div, ast.TryStar)
TOP = (ast.Expr, ast.ImportFrom, ast.FunctionDef, ast.ClassDef, ast.Assign)


def files():
    """The paths of the package's files, with their texts."""
    return [(path, path.read_text(encoding="utf-8")) for path in sorted(FOLDER.rglob("*.py"))]


def trees():
    """The package's files by their module names, parsed."""
    return {path.stem: ast.parse(text) for path, text in files()}


def bound_names(tree):
    """The names that the top of a file binds, one for each time it does."""
    names = []
    for row in tree.body:
        if isinstance(row, (ast.FunctionDef, ast.ClassDef)):
            names.append(row.name)
        if isinstance(row, ast.ImportFrom):
            names.extend(item.name for item in row.names)
        if isinstance(row, ast.Assign):
            names.extend(target.id for target in row.targets)
    return names


class TestLanguage(unittest.TestCase):
    def test_folder_holds_plain_files_alone(self):
        for path in FOLDER.rglob("*"):
            if "__pycache__" not in path.parts:
                self.assertEqual(path.suffix, ".py", path)
                self.assertRegex(path.stem, "^(__init__|__main__|[a-z][a-z0-9_]*)$")

    def test_sizes_and_characters(self):
        for path, text in files():
            rows = text.split("\n")
            self.assertLessEqual(len(rows), 400, path)
            self.assertLessEqual(max(len(row) for row in rows), 120, path)
            self.assertEqual({sign for sign in text if not (" " <= sign <= "~" or sign == "\n")},
                             set(), path)
            for node in ast.walk(ast.parse(text)):
                if isinstance(node, ast.FunctionDef):
                    self.assertLessEqual(node.end_lineno - node.lineno + 1, 40, node.name)

    def test_top_of_files(self):
        for name, tree in trees().items():
            for at, row in enumerate(tree.body):
                self.assertIsInstance(row, TOP, name)
                if isinstance(row, ast.Expr):
                    self.assertEqual((at, type(row.value.value)), (0, str), name)
            names = bound_names(tree)
            self.assertEqual(len(names), len(set(names)), name)

    def test_imports(self):
        modules = trees()
        for tree in modules.values():
            for node in ast.walk(tree):
                if isinstance(node, ast.ImportFrom):
                    self.assertEqual((node.level, node.col_offset), (0, 0))
                    self.assertTrue(all(item.asname is None for item in node.names))
                    wanted = {item.name for item in node.names}
                    if node.module not in LIBRARY:
                        package, module = node.module.split(".")
                        self.assertEqual(package, "wayrows")
                        self.assertLessEqual(wanted, set(bound_names(modules[module])))
                    else:
                        self.assertLessEqual(wanted, LIBRARY[node.module])

    def test_barred_words(self):
        for name, tree in trees().items():
            for node in ast.walk(tree):
                self.assertNotIsInstance(node, BARRED, name)
                if isinstance(node, ast.Constant):
                    self.assertNotIsInstance(node.value, (float, complex), name)
                    self.assertNotIn("%", str(node.value), name)
                if isinstance(node, ast.FunctionDef):
                    told = {item.id for item in node.decorator_list if isinstance(item, ast.Name)}
                    self.assertLessEqual(told, {"property", "staticmethod", "classmethod"}, name)

    def test_what_a_class_with_signs_bars(self):
        signs = {"__init__", "__len__", "__getitem__", "__contains__", "__iter__", "__eq__", "__str__"}
        barred = (ast.GeneratorExp, ast.Yield, ast.YieldFrom, ast.AugAssign, ast.Starred, ast.Lambda)
        for name, tree in trees().items():
            for node in ast.walk(tree):
                if not isinstance(node, ast.Starred) or name != "lost":
                    self.assertNotIsInstance(node, barred, name)
                if isinstance(node, ast.FunctionDef) and node.name.startswith("__"):
                    self.assertIn(node.name, signs, name)
                if isinstance(node, ast.Attribute):
                    self.assertNotIn(node.attr, ("sort", "keys", "format", "mro", "args"), name)

    def test_builtins(self):
        # Python keeps the last answer of an example, as other tests run them, under the name _.
        known = set(dir(builtins)) - {"_"}
        for name, tree in trees().items():
            for node in ast.walk(tree):
                if isinstance(node, ast.Name):
                    if isinstance(node.ctx, ast.Store):
                        self.assertNotIn(node.id, known, name)
                    elif node.id in known:
                        self.assertIn(node.id, BUILTINS, name)
                if isinstance(node, (ast.FunctionDef, ast.arg, ast.ClassDef)):
                    self.assertNotIn(getattr(node, "name", getattr(node, "arg", "")), known, name)


if __name__ == "__main__":
    unittest.main()
