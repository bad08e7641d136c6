"""Watches over the subset of Python in which the package is written, as far as a look at its syntax can tell."""

import ast
import builtins
import os
import unittest

FOLDER = os.path.join(os.path.dirname(__file__), "..", "unseenprices")
FILES = sorted(name for name in os.listdir(FOLDER) if name != "__pycache__")
BUILTINS = """len range enumerate zip min max sum abs sorted reversed int str bool bytes list tuple dict set frozenset
    isinstance ord repr any all divmod Exception ValueError TypeError KeyError IndexError LookupError
    ZeroDivisionError ArithmeticError OverflowError RuntimeError NotImplementedError AttributeError StopIteration
    NotImplemented super property staticmethod classmethod iter next map""".split()
# An interactive session, and doctest with it, leaves its last value among the builtins under the name _.
PYTHON_NAMES = [name for name in dir(builtins) if name != "_"]
METHODS = """append clear copy count endswith extend find get index insert isalnum isalpha isdigit items join keys
    ljust lower lstrip partition pop remove replace reverse rfind rjust rpartition rsplit rstrip setdefault split
    splitlines startswith strip update upper values zfill bit_length""".split()
STATEMENTS = (
    ast.FunctionDef, ast.ClassDef, ast.Return, ast.Delete, ast.Assign, ast.AugAssign, ast.For, ast.While, ast.If,
    ast.With, ast.Raise, ast.Try, ast.Assert, ast.ImportFrom, ast.Nonlocal, ast.Expr, ast.Pass, ast.Break,
    ast.Continue, ast.Match,
)


def text_of(name):
    with open(os.path.join(FOLDER, name), encoding="utf-8") as file:
        return file.read()


TREES = {name: ast.parse(text_of(name)) for name in FILES if name.endswith(".py")}


def bound_at_top(tree):
    """Return the names that a file defines itself."""
    names = [node.name for node in tree.body if isinstance(node, (ast.FunctionDef, ast.ClassDef))]
    return names + [node.targets[0].id for node in tree.body if isinstance(node, ast.Assign)]


def imported(tree):
    return [(node.module, alias) for node in tree.body if isinstance(node, ast.ImportFrom) for alias in node.names]


def functions(tree):
    return [node for node in ast.walk(tree) if isinstance(node, ast.FunctionDef)]


def bound_inside(function):
    """Return the names that are parameters or assigned in a function."""
    names = [node.arg for node in ast.walk(function) if isinstance(node, ast.arg)]
    return names + [
        node.id for node in ast.walk(function) if isinstance(node, ast.Name) and isinstance(node.ctx, ast.Store)
    ]


class FilesTest(unittest.TestCase):
    def test_folder(self):
        self.assertIn("__init__.py", FILES)
        self.assertTrue(all(name.endswith(".py") for name in FILES))

    def test_characters_and_sizes(self):
        for name in TREES:
            lines = text_of(name).split("\n")
            self.assertLessEqual(len(lines), 400, name)
            for line in lines:
                self.assertLessEqual(len(line), 120, name)
                self.assertTrue(all(" " <= sign <= "~" for sign in line), name)
            for function in functions(TREES[name]):
                self.assertLessEqual(function.end_lineno - function.lineno + 1, 40, function.name)

    def test_module_level(self):
        for name, tree in TREES.items():
            for node in tree.body:
                plain = isinstance(node, (ast.FunctionDef, ast.ClassDef, ast.ImportFrom, ast.Assign))
                self.assertTrue(plain or isinstance(node.value, ast.Constant), name)

    def test_imports(self):
        for name, tree in TREES.items():
            self.assertFalse([node for node in ast.walk(tree) if isinstance(node, ast.Import)])
            for module, alias in imported(tree):
                package, file = module.split(".")
                self.assertEqual(package, "unseenprices")
                self.assertIn(alias.name, bound_at_top(TREES[f"{file}.py"]), name)
                self.assertIsNone(alias.asname)

    def test_every_import_is_used(self):
        for name, tree in TREES.items():
            used = {node.id for node in ast.walk(tree) if isinstance(node, ast.Name)}
            for _, alias in imported(tree):
                self.assertIn(alias.name, used, name)

    def test_no_import_in_a_circle(self):
        left = {name: {f"{module.split('.')[1]}.py" for module, _ in imported(tree)} for name, tree in TREES.items()}
        while left:
            ready = [name for name, needed in left.items() if not needed & {*left}]
            self.assertTrue(ready)
            left = {name: needed for name, needed in left.items() if name not in ready}


class NamesTest(unittest.TestCase):
    def test_builtins(self):
        for name, tree in TREES.items():
            for node in ast.walk(tree):
                if isinstance(node, ast.Name) and node.id in PYTHON_NAMES:
                    self.assertIn(node.id, BUILTINS, name)
                    self.assertIsInstance(node.ctx, ast.Load, name)

    def test_no_name_hides_another(self):
        for tree in TREES.values():
            tops = {*bound_at_top(tree), *[alias.name for _, alias in imported(tree)], *PYTHON_NAMES}
            for function in functions(tree):
                self.assertFalse({*bound_inside(function)} & tops, function.name)
            self.assertFalse({*bound_at_top(tree)} & {*PYTHON_NAMES})

    def test_methods_of_builtin_values(self):
        own = {function.name for tree in TREES.values() for function in functions(tree)}
        for name, tree in TREES.items():
            for node in ast.walk(tree):
                if isinstance(node, ast.Call) and isinstance(node.func, ast.Attribute):
                    self.assertIn(node.func.attr, {*own, *METHODS}, name)


class SyntaxTest(unittest.TestCase):
    def nodes(self, *kinds):
        return [node for tree in TREES.values() for node in ast.walk(tree) if isinstance(node, kinds)]

    def test_statements(self):
        for node in self.nodes(ast.stmt):
            self.assertIsInstance(node, STATEMENTS)

    def test_no_floats_and_no_division(self):
        self.assertFalse([node for node in self.nodes(ast.BinOp) if isinstance(node.op, (ast.Div, ast.MatMult))])
        self.assertFalse([node for node in self.nodes(ast.Constant) if isinstance(node.value, (float, complex))])

    def test_no_percent_in_strings(self):
        self.assertFalse([node for node in self.nodes(ast.Constant) if "%" in str(node.value)])

    def test_is_with_none_alone(self):
        for node in self.nodes(ast.Compare):
            if any(isinstance(sign, (ast.Is, ast.IsNot)) for sign in node.ops):
                self.assertIsInstance(node.comparators[0], ast.Constant)

    def test_decorators(self):
        for node in self.nodes(ast.FunctionDef, ast.ClassDef):
            for decorator in node.decorator_list:
                self.assertIsInstance(node, ast.FunctionDef)
                self.assertIn(ast.unparse(decorator), ("property", "classmethod", "staticmethod"))

    def test_a_property_only_reads_an_attribute(self):
        found = [node for node in self.nodes(ast.FunctionDef) if "property" in map(ast.unparse, node.decorator_list)]
        self.assertTrue(found)
        for node in found:
            last = node.body[-1]
            self.assertEqual(len(node.body), 2, node.name)
            self.assertTrue(isinstance(last, ast.Return) and isinstance(last.value, ast.Attribute), node.name)

    def test_an_operator_changes_nothing(self):
        changing = ("__init__", "__enter__", "__exit__", "__call__")
        found = [node for node in self.nodes(ast.FunctionDef) if node.name[:2] == "__" and node.name not in changing]
        self.assertTrue(found)
        for node in [inner for one in found for inner in ast.walk(one)]:
            if isinstance(node, (ast.Attribute, ast.Subscript)):
                self.assertIsInstance(node.ctx, ast.Load)
            self.assertNotIsInstance(node, (ast.AugAssign, ast.Delete))

    def test_leaving_a_block_only_assigns_attributes(self):
        found = [node for node in self.nodes(ast.FunctionDef) if node.name == "__exit__"]
        self.assertTrue(found)
        for row in [row for node in found for row in node.body]:
            self.assertIsInstance(row, ast.Assign)
            self.assertEqual([one.__class__ for one in row.targets], [ast.Attribute])
            self.assertIsInstance(row.value, (ast.Attribute, ast.Constant))

    def test_iterating_goes_over_an_attribute(self):
        found = [node for node in self.nodes(ast.FunctionDef) if node.name == "__iter__"]
        self.assertTrue(found)
        for node in found:
            self.assertRegex(ast.unparse(node.body[-1]), r"^return iter\(self\.[a-z_.]+\)$")
            self.assertEqual(len(node.body), 1)

    def test_no_name_is_a_method_and_an_attribute(self):
        methods, stored = {}, {}
        for node in self.nodes(ast.ClassDef):
            methods[node.name] = {row.name for row in node.body if isinstance(row, ast.FunctionDef)}
            stored[node.name] = {
                one.attr for one in ast.walk(node) if isinstance(one, ast.Attribute) and isinstance(one.ctx, ast.Store)
            }
        for names in stored.values():
            for name in methods:
                self.assertFalse(names & methods[name], name)

    def test_a_class_method_only_calls_its_class(self):
        for node in self.nodes(ast.FunctionDef):
            if "classmethod" in map(ast.unparse, node.decorator_list):
                name = node.args.args[0].arg
                inner = [
                    part for one in ast.walk(node) if isinstance(one, (ast.ListComp, ast.Lambda, ast.DictComp))
                    for part in ast.walk(one)
                ]
                self.assertNotIn(name, [part.id for part in inner if isinstance(part, ast.Name)])

    def test_no_loop_changes_what_it_goes_over(self):
        for loop in self.nodes(ast.For):
            named = {ast.unparse(node) for node in ast.walk(loop.iter) if isinstance(node, (ast.Name, ast.Attribute))}
            for node in [inner for row in loop.body for inner in ast.walk(row)]:
                if isinstance(node, ast.Call) and isinstance(node.func, ast.Attribute):
                    if node.func.attr in ("append", "clear", "extend", "insert", "pop", "remove", "reverse", "update"):
                        self.assertNotIn(ast.unparse(node.func.value), named)
                if isinstance(node, ast.Subscript) and isinstance(node.ctx, ast.Store):
                    self.assertNotIn(ast.unparse(node.value), named)

    def test_no_generator_expressions(self):
        self.assertFalse(self.nodes(ast.GeneratorExp))

    def test_a_set_is_sorted_or_counted_on_the_spot(self):
        held = {
            id(part) for node in self.nodes(ast.Call)
            if isinstance(node.func, ast.Name) and node.func.id in ("sorted", "len") for part in ast.walk(node)
        }
        for node in self.nodes(ast.Call):
            if isinstance(node.func, ast.Name) and node.func.id in ("set", "frozenset"):
                self.assertIn(id(node), held)
        self.assertFalse(self.nodes(ast.Set, ast.SetComp))
