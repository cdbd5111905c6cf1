"""Rules of the language that a look at the files can tell, for each file of the package."""

import ast
import builtins
import unittest
from pathlib import Path

TOP = Path(__file__).resolve().parent.parent
PACKAGE = TOP / "oneswill"
BUILTINS = set("""len range enumerate zip min max sum abs sorted reversed int str bool bytes list tuple dict set
isinstance ord repr any all divmod iter next map getattr hasattr setattr type property staticmethod classmethod super
Exception ValueError TypeError KeyError IndexError LookupError ZeroDivisionError ArithmeticError OverflowError
RuntimeError NotImplementedError AttributeError StopIteration NotImplemented object float True False None""".split())
MODULE_LEVEL = (ast.Expr, ast.ImportFrom, ast.FunctionDef, ast.ClassDef, ast.Assign)
BARRED = (ast.AsyncFunctionDef, ast.AsyncFor, ast.AsyncWith, ast.Await, ast.Import, ast.Div)
# They take a list where a class compares.
TAKE_LISTS = ("any", "all", "min", "max", "sum", "sorted")


def files():
    """The files of the package."""
    return sorted(path for path in PACKAGE.rglob("*") if path.is_file() and "__pycache__" not in path.parts)


def module(path):
    """The name of the module in a file."""
    parts = path.relative_to(TOP).with_suffix("").parts
    return ".".join(parts[:-1] if parts[-1] == "__init__" else parts)


def defined(tree):
    """The names that are bound at module level by the file itself."""
    names = [node.name for node in tree.body if isinstance(node, (ast.FunctionDef, ast.ClassDef))]
    return names + [target.id for node in tree.body if isinstance(node, ast.Assign) for target in node.targets]


def attributes(trees):
    """The names of the attributes that the classes of the package assign."""
    nodes = [node for tree in trees for node in ast.walk(tree)]
    return {node.attr for node in nodes if isinstance(node, ast.Attribute) and isinstance(node.ctx, ast.Store)}


class LanguageTest(unittest.TestCase):
    def setUp(self):
        self.trees = {path: ast.parse(path.read_text(encoding="ascii")) for path in files()}
        self.defined = {module(path): defined(tree) for path, tree in self.trees.items()}

    def test_files(self):
        for path in files():
            self.assertEqual(path.suffix, ".py", path)
            self.assertEqual(path.name, path.name.lower(), path)
            self.assertTrue((path.parent / "__init__.py").exists(), path)

    def test_lines(self):
        for path in files():
            text = path.read_text(encoding="ascii")
            self.assertLessEqual(len(text.split("\n")), 399, path)
            self.assertTrue(all(sign == "\n" or " " <= sign <= "~" for sign in text), path)
            self.assertLessEqual(max(map(len, text.split("\n"))), 120, path)

    def test_functions_are_small(self):
        for path, tree in self.trees.items():
            for node in ast.walk(tree):
                if isinstance(node, ast.FunctionDef):
                    self.assertLessEqual(node.end_lineno - node.lineno + 1, 40, (path, node.name))

    def test_module_level(self):
        for path, tree in self.trees.items():
            for node in tree.body:
                self.assertIsInstance(node, MODULE_LEVEL, (path, node.lineno))
            self.assertIsNotNone(ast.get_docstring(tree), path)
            names = self.defined[module(path)]
            self.assertEqual(len(names), len(set(names)), path)

    def test_imports_name_the_file_that_defines(self):
        for path, tree in self.trees.items():
            for node in ast.walk(tree):
                if isinstance(node, ast.ImportFrom) and node.module.split(".")[0] == "oneswill":
                    for name in node.names:
                        self.assertIn(name.name, self.defined[node.module], (path, node.lineno))
                        self.assertIsNone(name.asname, (path, node.lineno))
                elif isinstance(node, ast.ImportFrom):
                    self.assertIn(node.module, ("heapq", "math", "itertools", "collections"), (path, node.lineno))

    def test_barred_parts(self):
        for path, tree in self.trees.items():
            for node in ast.walk(tree):
                self.assertNotIsInstance(node, BARRED, (path, getattr(node, "lineno", 0)))
                if isinstance(node, ast.Constant):
                    self.assertNotIsInstance(node.value, (float, complex), (path, node.lineno))

    def test_no_generator_where_a_list_must_stand(self):
        for path, tree in self.trees.items():
            for node in ast.walk(tree):
                if isinstance(node, ast.Call) and isinstance(node.func, ast.Name) and node.func.id in TAKE_LISTS:
                    for part in node.args:
                        self.assertNotIsInstance(part, ast.GeneratorExp, (path, node.lineno))

    def test_builtins(self):
        # The prompt of Python, and so a doctest, binds _ as a builtin.
        builtin = set(dir(builtins)) - {"_"}
        for path, tree in self.trees.items():
            for node in ast.walk(tree):
                if isinstance(node, ast.Name) and node.id in builtin:
                    self.assertIn(node.id, BUILTINS, (path, node.lineno))
                    self.assertIsInstance(node.ctx, ast.Load, (path, node.lineno))

    def test_no_call_by_the_name_of_an_attribute(self):
        # In what an operator or a property runs, such a call would count as one of something that is held.
        kept = attributes(self.trees.values())
        self.assertIn("index", kept)
        for path, tree in self.trees.items():
            for node in ast.walk(tree):
                if isinstance(node, ast.Call) and isinstance(node.func, ast.Attribute):
                    self.assertNotIn(node.func.attr, kept, (path, node.lineno))


if __name__ == "__main__":
    unittest.main()
