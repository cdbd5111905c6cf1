"""Rules of the language that a look at the files can tell, for each file of the package."""

import ast
import builtins
import unittest
from pathlib import Path

TOP = Path(__file__).resolve().parent.parent
PACKAGE = TOP / "oneswill"
BUILTINS = set("""len range enumerate zip min max sum abs sorted reversed int str bool bytes list tuple dict set
isinstance ord repr any all divmod iter next map getattr hasattr setattr type property staticmethod classmethod super
Exception ValueError TypeError KeyError IndexError LookupError ZeroDivisionError ArithmeticError OverflowError
RuntimeError NotImplementedError AttributeError StopIteration NotImplemented object float True False None""".split())
MODULE_LEVEL = (ast.Expr, ast.ImportFrom, ast.FunctionDef, ast.ClassDef, ast.Assign)
BARRED = (ast.AsyncFunctionDef, ast.AsyncFor, ast.AsyncWith, ast.Await, ast.Import, ast.Div)
# The methods of builtin values that may be called at all.
METHODS = set("""append clear copy count endswith extend find get index insert isalnum isalpha isdigit islower isspace
isupper items join keys ljust lower lstrip partition pop remove replace reverse rfind rjust rpartition rsplit rstrip
setdefault split splitlines startswith strip update upper values zfill bit_length""".split())
WORDS = ("type", "typing", "enum", "register", "mro", "elements", "open", "input", "law", "version_info", "namedtuple",
         "eval", "exec", "globals", "locals", "vars", "dir", "id", "help", "gc", "os", "compile", "chr", "Meta")
# They are iterated where they stand.
VIEWS = ("zip", "enumerate", "reversed", "range", "items", "keys", "values")
TAKE_VIEWS = ("list", "tuple", "dict", "sorted", "sum", "any", "all", "enumerate", "zip", "min", "max")
MODIFY = ("append", "clear", "extend", "insert", "pop", "remove", "reverse", "setdefault", "update")
PLAIN = (ast.Name, ast.Attribute, ast.Constant)
# They take a list where a class compares.
TAKE_LISTS = ("any", "all", "min", "max", "sum", "sorted")


def files():
    """The files of the package."""
    return sorted(path for path in PACKAGE.rglob("*") if path.is_file() and "__pycache__" not in path.parts)


def module(path):
    """The name of the module in a file."""
    parts = path.relative_to(TOP).with_suffix("").parts
    return ".".join(parts[:-1] if parts[-1] == "__init__" else parts)


def defined(tree):
    """The names that are bound at module level by the file itself."""
    names = [node.name for node in tree.body if isinstance(node, (ast.FunctionDef, ast.ClassDef))]
    return names + [target.id for node in tree.body if isinstance(node, ast.Assign) for target in node.targets]


def attributes(trees):
    """The names of the attributes that the classes of the package assign."""
    nodes = [node for tree in trees for node in ast.walk(tree)]
    return {node.attr for node in nodes if isinstance(node, ast.Attribute) and isinstance(node.ctx, ast.Store)}


def called(node):
    """The name by which a call calls, or None."""
    if not isinstance(node, ast.Call):
        return None
    return getattr(node.func, "id", getattr(node.func, "attr", None))


def above(tree):
    """For each node of a tree the one above it."""
    return {node: parent for parent in ast.walk(tree) for node in ast.iter_child_nodes(parent)}


def bound_in(function):
    """The names of the parameters and the local variables of a function."""
    names = {part.arg for part in ast.walk(function) if isinstance(part, ast.arg)}
    return names | {part.id for part in ast.walk(function)
                    if isinstance(part, ast.Name) and isinstance(part.ctx, ast.Store)}


def may_be(node):
    """The names of the variables whose value an expression may be, or be a part of."""
    if isinstance(node, ast.Name):
        return [node.id]
    if isinstance(node, (ast.Attribute, ast.Subscript, ast.Starred, ast.NamedExpr)):
        return may_be(node.value)
    parts = {ast.IfExp: ("body", "orelse"), ast.BoolOp: ("values",), ast.Tuple: ("elts",), ast.List: ("elts",)}
    found = [getattr(node, key) for key in parts.get(type(node), ())]
    if isinstance(node, ast.Call) and called(node) in VIEWS:
        # What is iterated by these is what they are given.
        found = [node.args, getattr(node.func, "value", [])]
    return [name for part in found for item in (part if isinstance(part, list) else [part]) for name in may_be(item)]


def one_value(function):
    """For each variable of a function those that assignments make one with it, whole or in part."""
    names = {name: {name} for name in bound_in(function)}
    for node in ast.walk(function):
        if isinstance(node, ast.Assign):
            joined = {name for part in [*node.targets, node.value] for name in may_be(part)}
            for name in set(joined):
                joined |= names.get(name, set())
            for name in joined:
                names[name] = joined
    return names


def changed_in(nodes):
    """The expressions whose values are changed by these nodes."""
    for node in nodes:
        for part in ast.walk(node):
            if isinstance(part, (ast.Subscript, ast.Attribute)) and not isinstance(part.ctx, ast.Load):
                yield part.value
            elif isinstance(part, ast.AugAssign):
                yield part.target
            elif isinstance(part, ast.Call) and called(part) in MODIFY and isinstance(part.func, ast.Attribute):
                yield part.func.value


def is_operator(function):
    """Whether a function is a property or an operator, which may change nothing."""
    if any(getattr(decorator, "id", "") == "property" for decorator in function.decorator_list):
        return True
    return function.name.startswith("__") and function.name not in (
        "__init__", "__call__", "__iter__", "__enter__", "__exit__")


def run_by_operators(trees):
    """The functions and methods that are properties and operators, or that these call, one behind another."""
    functions, found = {}, []
    for tree in trees:
        for node in ast.walk(tree):
            if isinstance(node, ast.FunctionDef):
                functions.setdefault(node.name, []).append(node)
            elif isinstance(node, ast.ClassDef):
                functions.setdefault(node.name, []).extend(
                    part for part in node.body if isinstance(part, ast.FunctionDef) and part.name == "__init__")
    waiting = [node for nodes in functions.values() for node in nodes if is_operator(node)]
    while waiting:
        node = waiting.pop()
        if node not in found:
            found.append(node)
            waiting += [other for part in ast.walk(node) for other in functions.get(called(part), ())]
    return found


class LanguageTest(unittest.TestCase):
    def setUp(self):
        self.trees = {path: ast.parse(path.read_text(encoding="ascii")) for path in files()}
        self.defined = {module(path): defined(tree) for path, tree in self.trees.items()}

    def test_files(self):
        for path in files():
            self.assertEqual(path.suffix, ".py", path)
            self.assertEqual(path.name, path.name.lower(), path)
            self.assertTrue((path.parent / "__init__.py").exists(), path)

    def test_lines(self):
        for path in files():
            text = path.read_text(encoding="ascii")
            self.assertLessEqual(len(text.split("\n")), 399, path)
            self.assertTrue(all(sign == "\n" or " " <= sign <= "~" for sign in text), path)
            self.assertLessEqual(max(map(len, text.split("\n"))), 120, path)

    def test_functions_are_small(self):
        for path, tree in self.trees.items():
            for node in ast.walk(tree):
                if isinstance(node, ast.FunctionDef):
                    self.assertLessEqual(node.end_lineno - node.lineno + 1, 40, (path, node.name))

    def test_module_level(self):
        for path, tree in self.trees.items():
            for node in tree.body:
                self.assertIsInstance(node, MODULE_LEVEL, (path, node.lineno))
            self.assertIsNotNone(ast.get_docstring(tree), path)
            names = self.defined[module(path)]
            self.assertEqual(len(names), len(set(names)), path)

    def test_imports_name_the_file_that_defines(self):
        for path, tree in self.trees.items():
            for node in ast.walk(tree):
                if isinstance(node, ast.ImportFrom) and node.module.split(".")[0] == "oneswill":
                    for name in node.names:
                        self.assertIn(name.name, self.defined[node.module], (path, node.lineno))
                        self.assertIsNone(name.asname, (path, node.lineno))
                elif isinstance(node, ast.ImportFrom):
                    self.assertIn(node.module, ("heapq", "math", "itertools", "collections"), (path, node.lineno))

    def test_each_import_is_used(self):
        for path, tree in self.trees.items():
            used = {node.id for node in ast.walk(tree) if isinstance(node, ast.Name)}
            for node in tree.body:
                if isinstance(node, ast.ImportFrom):
                    self.assertLessEqual({name.name for name in node.names}, used, (path, node.lineno))

    def test_barred_parts(self):
        for path, tree in self.trees.items():
            for node in ast.walk(tree):
                self.assertNotIsInstance(node, BARRED, (path, getattr(node, "lineno", 0)))
                if isinstance(node, ast.Constant):
                    self.assertNotIsInstance(node.value, (float, complex), (path, node.lineno))

    def test_no_generator_where_a_list_must_stand(self):
        for path, tree in self.trees.items():
            for node in ast.walk(tree):
                if isinstance(node, ast.Call) and isinstance(node.func, ast.Name) and node.func.id in TAKE_LISTS:
                    for part in node.args:
                        self.assertNotIsInstance(part, ast.GeneratorExp, (path, node.lineno))

    def test_builtins(self):
        # The prompt of Python, and so a doctest, binds _ as a builtin.
        builtin = set(dir(builtins)) - {"_"}
        for path, tree in self.trees.items():
            for node in ast.walk(tree):
                if isinstance(node, ast.Name) and node.id in builtin:
                    self.assertIn(node.id, BUILTINS, (path, node.lineno))
                    self.assertIsInstance(node.ctx, ast.Load, (path, node.lineno))

    def test_no_call_by_the_name_of_an_attribute(self):
        # In what an operator or a property runs, such a call would count as one of something that is held.
        kept = attributes(self.trees.values())
        self.assertIn("index", kept)
        for path, tree in self.trees.items():
            for node in ast.walk(tree):
                if isinstance(node, ast.Call) and isinstance(node.func, ast.Attribute):
                    self.assertNotIn(node.func.attr, kept, (path, node.lineno))

    def nodes(self, *kinds):
        """Each node of these kinds, with the one above it and its place."""
        for path, tree in self.trees.items():
            parents = above(tree)
            for node in ast.walk(tree):
                if isinstance(node, kinds):
                    yield node, parents.get(node), (path.name, getattr(node, "lineno", 0))

    def test_methods_of_builtin_values(self):
        own = {node.name for node, _, _ in self.nodes(ast.FunctionDef)}
        for node, _, place in self.nodes(ast.Call):
            if isinstance(node.func, ast.Attribute):
                self.assertIn(node.func.attr, METHODS | own, place)

    def test_words(self):
        for node, _, place in self.nodes(ast.Name, ast.Attribute, ast.arg, ast.FunctionDef, ast.Constant):
            text = [getattr(node, key, None) for key in ("id", "attr", "arg", "name", "value")]
            self.assertFalse(set(WORDS) & {word for word in text if isinstance(word, str)}, place)

    def test_views_are_iterated_on_the_spot(self):
        for node, parent, place in self.nodes(ast.Call):
            if called(node) in VIEWS:
                at_once = isinstance(parent, (ast.For, ast.comprehension)) and parent.iter is node
                first = called(parent) in TAKE_VIEWS and parent.args[0] is node
                self.assertTrue(at_once or first, place)

    def test_sets_are_neither_kept_nor_iterated(self):
        for node, parent, place in self.nodes(ast.Set, ast.SetComp, ast.Call):
            if not isinstance(node, ast.Call) or called(node) == "set":
                self.assertTrue(called(parent) in ("sorted", "len") or isinstance(parent, ast.Compare), place)

    def test_stars(self):
        for node, parent, place in self.nodes(ast.Starred):
            self.assertIsInstance(node.value, PLAIN, place)
        for node, _, place in self.nodes(ast.Subscript):
            self.assertFalse(any(isinstance(part, ast.Starred) for part in ast.walk(node.slice)), place)

    def test_operators(self):
        for node, _, place in self.nodes(ast.BinOp, ast.AugAssign):
            self.assertNotIsInstance(node.op, (ast.Div, ast.MatMult), place)
            if isinstance(node.op, ast.Pow):
                self.assertIn(ast.literal_eval(node.right), range(65), place)
        for node, _, place in self.nodes(ast.Compare):
            if any(isinstance(op, (ast.Is, ast.IsNot)) for op in node.ops):
                self.assertIsInstance(node.comparators[0], ast.Constant, place)

    def test_no_name_of_an_import_or_a_class_means_something_else(self):
        for path, tree in self.trees.items():
            taken = {name.name for node in tree.body if isinstance(node, ast.ImportFrom) for name in node.names}
            taken |= {node.name for node in tree.body if isinstance(node, ast.ClassDef)}
            for node in ast.walk(tree):
                if isinstance(node, ast.FunctionDef):
                    self.assertEqual(taken & bound_in(node), set(), (path, node.name))

    def test_what_operators_run_changes_nothing(self):
        functions = run_by_operators(self.trees.values())
        self.assertGreater(len(functions), 20)
        for function in functions:
            bound = bound_in(function)
            for node in ast.walk(function):
                place = (function.name, getattr(node, "lineno", 0))
                self.assertNotIsInstance(node, (ast.AugAssign, ast.Delete, ast.Lambda, ast.Yield), place)
                if isinstance(node, ast.Subscript):
                    self.assertIsInstance(node.ctx, ast.Load, place)
                if isinstance(node, ast.Attribute) and isinstance(node.ctx, ast.Store):
                    self.assertEqual((function.name, node.value.id), ("__init__", "self"), place)
                if isinstance(node, ast.Call):
                    self.assertNotIn(called(node), bound, place)
                    self.assertNotIn(called(node), MODIFY, place)

    def wrong_loops(self, tree):
        """The places of the loops in which something is changed that may be what they iterate over."""
        for function in ast.walk(tree):
            names = one_value(function) if isinstance(function, ast.FunctionDef) else {}
            for node in ast.walk(function) if names else ():
                loops = [node] if isinstance(node, ast.For) else getattr(node, "generators", [])
                over = {name for loop in loops for name in may_be(loop.iter)}
                body = node.body if isinstance(node, ast.For) else [node]
                for changed in changed_in(body) if over else ():
                    if any(names.get(name, {name}) & over for name in may_be(changed)):
                        yield node.lineno

    def test_no_loop_changes_what_it_iterates_over(self):
        for path, tree in self.trees.items():
            self.assertEqual(list(self.wrong_loops(tree)), [], path)

    def test_what_counts_as_a_loop_that_changes_what_it_iterates_over(self):
        for text in ("for x in xs:\n  xs.append(x)", "for x in xs:\n  ys.append(x)\n xs = ys",
                     "for x in enumerate(xs):\n  xs[0] = x", "for x in a.xs:\n  del a.xs[0]",
                     "for x in xs.items():\n  xs.pop(x)", "ys = xs if a else []\n for x in ys:\n  xs.clear()",
                     "a, ys = 1, xs\n for x in ys:\n  xs += [x]", "return [xs.pop() for x in xs]"):
            tree = ast.parse(f"def f(xs, a):\n {text}")
            self.assertNotEqual(list(self.wrong_loops(tree)), [], text)
        for text in ("for x in list(xs):\n  xs.append(x)", "for x in xs:\n  ys.append(x)\n xs = list(ys)",
                     "for x in sorted(xs):\n  xs[x] = 1", "ys = []\n for x in xs:\n  ys.append(x)"):
            self.assertEqual(list(self.wrong_loops(ast.parse(f"def f(xs, a):\n {text}"))), [], text)

    def test_blocks_end_by_plain_assignments(self):
        for node, _, place in self.nodes(ast.FunctionDef):
            if node.name == "__exit__":
                self.assertEqual([part.arg for part in node.args.args], ["self", "kind", "value", "trace"], place)
                names = [part.targets[0].id for part in node.body if isinstance(part.targets[0], ast.Name)]
                self.assertEqual(len(names), len(set(names)), place)
                for part in node.body:
                    self.assertIsInstance(part, ast.Assign, place)
                    self.assertIsInstance(part.value, (ast.Name, ast.Attribute), place)

    def test_each_caught_error_has_a_name_of_its_own(self):
        for function, _, place in self.nodes(ast.FunctionDef):
            caught = [node.name for node in ast.walk(function) if isinstance(node, ast.ExceptHandler) and node.name]
            self.assertEqual(len(caught), len(set(caught)), place)
            self.assertEqual(set(caught) & bound_in(function), set(), place)

    def test_own_errors_alone_are_caught(self):
        own = set(self.defined["oneswill.errors"])
        for node, _, place in self.nodes(ast.ExceptHandler):
            named = {part.id for part in ast.walk(node.type) if isinstance(part, ast.Name)}
            self.assertLessEqual(named, own, place)

    def test_keywords_alone_behind_a_star(self):
        for node, _, place in self.nodes(ast.FunctionDef):
            self.assertTrue(not node.args.kwonlyargs or node.args.args[0].arg == "self", place)
            self.assertIsNone(node.args.vararg or node.args.kwarg, place)

    def test_no_import_leads_round(self):
        loads = {module(path): {node.module for node in tree.body if isinstance(node, ast.ImportFrom)}
                 for path, tree in self.trees.items()}
        left = dict(loads)
        while left:
            free = [name for name in left if not loads[name] & set(left)]
            self.assertNotEqual(free, [], left)
            for name in free:
                del left[name]


if __name__ == "__main__":
    unittest.main()
