"""Whether the package keeps to those rules of the language that can be seen file by file."""

import ast
import builtins
import unittest

from test_interface import FOLDER, INTERFACE

BUILTINS = """len range enumerate zip min max sum abs sorted reversed int str bool bytes list tuple dict set isinstance
ord repr any all divmod ValueError True False None""".split()
METHODS = """append clear copy count endswith extend find get index insert isalnum isalpha isdigit islower isspace
isupper items join keys ljust lower lstrip partition pop remove replace reverse rfind rjust rpartition rsplit rstrip
setdefault split splitlines startswith strip update upper values zfill bit_length isascii isdecimal removeprefix
removesuffix""".split()
LIBRARY = {"math": ["gcd", "lcm"], "itertools": ["combinations", "permutations"]}
STATEMENTS = (
    ast.FunctionDef, ast.ClassDef, ast.Return, ast.Assign, ast.AugAssign, ast.For, ast.While, ast.If, ast.Raise,
    ast.ImportFrom, ast.Expr, ast.Pass, ast.Break, ast.Continue, ast.Assert, ast.Delete, ast.Try)


def trees():
    for path in sorted(FOLDER.glob("*.py")):
        yield path.name, path.read_text(), ast.parse(path.read_text())


def nodes(tree, *kinds):
    return [node for node in ast.walk(tree) if isinstance(node, kinds)]


def bound_names(tree):
    """All names that a file gives to something, but those of its imports."""
    names = [node.id for node in nodes(tree, ast.Name) if not isinstance(node.ctx, ast.Load)]
    names += [node.arg for node in nodes(tree, ast.arg)]
    return names + [node.name for node in nodes(tree, ast.FunctionDef, ast.ClassDef)]


def imported_names(tree):
    return [alias.name for node in nodes(tree, ast.ImportFrom) for alias in node.names]


class LanguageTest(unittest.TestCase):
    def test_sizes_and_characters(self):
        for name, text, tree in trees():
            self.assertTrue(text == "" or text.endswith("\n"), name)
            self.assertEqual("", "".join([sign for sign in text if not (" " <= sign <= "~" or sign == "\n")]), name)
            lines = text.split("\n")
            self.assertLess(len(lines), 400, name)
            self.assertLessEqual(max([len(line) for line in lines]), 120, name)
            for function in nodes(tree, ast.FunctionDef):
                self.assertLessEqual(function.end_lineno - function.lineno + 1, 40, function.name)

    def test_imports_are_of_files_above_and_of_what_these_define(self):
        defined = {}
        order = list(INTERFACE)
        for name, _, tree in trees():
            own = [node.name for node in tree.body if isinstance(node, (ast.FunctionDef, ast.ClassDef))]
            own += [node.targets[0].id for node in tree.body if isinstance(node, ast.Assign)]
            self.assertEqual(len(own), len(set(own)), name)
            defined[name.removesuffix(".py")] = own
        for name, _, tree in trees():
            for node in nodes(tree, ast.ImportFrom):
                for alias in node.names:
                    self.assertIsNone(alias.asname, name)
                    if node.module in LIBRARY:
                        self.assertIn(alias.name, LIBRARY[node.module], name)
                        continue
                    package, file = node.module.split(".")
                    self.assertEqual("leastpowers", package)
                    self.assertIn(alias.name, defined[file], name)
                    self.assertLess(order.index(file), order.index(name.removesuffix(".py")), name)
            self.assertEqual([], nodes(tree, ast.Import))

    def test_all_that_is_imported_is_used(self):
        for name, _, tree in trees():
            used = [node.id for node in nodes(tree, ast.Name) if isinstance(node.ctx, ast.Load)]
            self.assertEqual([], sorted(set(imported_names(tree)) - set(used)), name)

    def test_statements_are_plain(self):
        for name, _, tree in trees():
            for node in nodes(tree, ast.stmt):
                self.assertIsInstance(node, STATEMENTS, f"{name}:{node.lineno}")
            for node in nodes(tree, ast.FunctionDef, ast.ClassDef):
                self.assertEqual([], node.decorator_list, node.name)
            for node in tree.body:
                self.assertNotIsInstance(node, (ast.If, ast.For, ast.While, ast.Try), name)

    def test_expressions_are_plain(self):
        barred = (ast.GeneratorExp, ast.SetComp, ast.Starred, ast.Yield, ast.YieldFrom, ast.Await, ast.NamedExpr)
        for name, _, tree in trees():
            self.assertEqual([], [node.lineno for node in nodes(tree, *barred)], name)
            self.assertEqual([], nodes(tree, ast.Div, ast.Pow), name)
            for node in nodes(tree, ast.Constant):
                self.assertNotIsInstance(node.value, (float, complex, bytes), name)
                self.assertNotIn("%", node.value if isinstance(node.value, str) else "", name)
            for node in nodes(tree, ast.Compare):
                for sign, side in zip(node.ops, node.comparators):
                    if isinstance(sign, (ast.Is, ast.IsNot)):
                        self.assertIsInstance(side, ast.Constant, f"{name}:{node.lineno}")

    def test_names_are_plain_and_bound_to_one_meaning(self):
        for name, _, tree in trees():
            for bound in set(bound_names(tree)) - {"_", "__init__", "__eq__"}:
                self.assertFalse(hasattr(builtins, bound), f"{name}: {bound}")
                self.assertNotIn(bound, imported_names(tree), name)
                self.assertFalse(bound.startswith("__"), name)

    def test_only_some_builtins_and_methods_are_used(self):
        classes = [node for _, _, tree in trees() for node in nodes(tree, ast.ClassDef)]
        own = [node.name for made in classes for node in nodes(made, ast.FunctionDef)]
        for name, _, tree in trees():
            known = [*BUILTINS, *bound_names(tree), *imported_names(tree)]
            for node in nodes(tree, ast.Name):
                self.assertIn(node.id, known, f"{name}:{node.lineno}")
            for node in nodes(tree, ast.Call):
                if isinstance(node.func, ast.Attribute):
                    self.assertIn(node.func.attr, [*METHODS, *own], f"{name}:{node.lineno}")

    def test_attributes_are_no_methods(self):
        for name, _, tree in trees():
            for made in nodes(tree, ast.ClassDef):
                methods = [node.name for node in nodes(made, ast.FunctionDef)]
                held = [node.attr for node in nodes(made, ast.Attribute) if isinstance(node.ctx, ast.Store)]
                self.assertEqual([], sorted(set(methods) & set(held)), made.name)
                self.assertEqual(len(methods), len(set(methods)), made.name)

    def test_no_local_name_is_that_of_a_function_of_its_file(self):
        for name, _, tree in trees():
            functions = [node.name for node in tree.body if isinstance(node, ast.FunctionDef)]
            local = [node.id for node in nodes(tree, ast.Name) if isinstance(node.ctx, ast.Store)]
            local += [node.arg for node in nodes(tree, ast.arg)]
            self.assertEqual([], sorted(set(functions) & set(local)), name)
