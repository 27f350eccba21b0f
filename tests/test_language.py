"""The form of the package: the rules of LANGUAGE.md that a short check can tell, most of them in a narrower form."""

import ast
import builtins
import pathlib
import re
import unittest

PACKAGE = pathlib.Path(__file__).resolve().parent.parent / "everyfuture"
BUILTINS = {
    "len", "range", "enumerate", "zip", "min", "max", "sum", "abs", "sorted", "reversed", "int", "str", "bool", "list",
    "tuple", "dict", "set", "isinstance", "divmod", "any", "all", "iter", "super", "ValueError",
}
METHODS = {
    "append", "count", "endswith", "extend", "find", "get", "index", "insert", "items", "join", "keys",
    "partition", "pop", "setdefault", "split", "startswith", "values", "bit_length",
}
DOUBLE = {
    "__init__", "__eq__", "__call__", "__iter__", "__or__", "__and__", "__sub__", "__mul__", "__add__", "__contains__",
}
STATEMENTS = (
    ast.Assign, ast.AugAssign, ast.If, ast.While, ast.For, ast.Return, ast.Break, ast.Continue, ast.Pass, ast.Raise,
    ast.Expr, ast.FunctionDef, ast.ClassDef, ast.ImportFrom, ast.Try,
)
NOT_USED = (
    ast.GeneratorExp, ast.Lambda, ast.Yield, ast.YieldFrom, ast.Set, ast.NamedExpr, ast.Div, ast.Pow, ast.Await,
    ast.AnnAssign,
)
BARRED = re.compile(r"\b(type|typing|enum|namedtuple|dataclass|overload|law|register|open|input|elements)\b")


def trees():
    """Return the names of the files of the package with their trees."""
    return [(path.name, ast.parse(path.read_text("ascii"))) for path in sorted(PACKAGE.glob("*.py"))]


def nodes(kind):
    """Return all nodes of a kind in the package, with the places where they stand."""
    return [(f"{name}:{getattr(node, 'lineno', 0)}", node) for name, tree in trees() for node in ast.walk(tree)
            if isinstance(node, kind)]


def bound_names(tree):
    """Return all names that a file gives a meaning inside and outside of functions."""
    names = [node.id for node in ast.walk(tree) if isinstance(node, ast.Name) and not isinstance(node.ctx, ast.Load)]
    names += [node.arg for node in ast.walk(tree) if isinstance(node, ast.arg)]
    names += [node.name for node in tree.body if isinstance(node, (ast.FunctionDef, ast.ClassDef))]
    return names + [alias.name for node in ast.walk(tree) if isinstance(node, ast.ImportFrom) for alias in node.names]


class Files(unittest.TestCase):
    def test_the_package_has_plain_files_only(self):
        for path in PACKAGE.iterdir():
            if path.name != "__pycache__":
                self.assertRegex(path.name, r"^[a-z_0-9]+\.py$")

    def test_sizes_and_characters(self):
        for path in PACKAGE.glob("*.py"):
            text = path.read_text("ascii")
            self.assertRegex(text, r"^[\n -~]*$")
            lines = text.split("\n")
            self.assertLess(len(lines), 400, path.name)
            self.assertLessEqual(max(len(line) for line in lines), 120, path.name)

    def test_functions_are_short(self):
        for place, node in nodes(ast.FunctionDef):
            self.assertLessEqual(node.end_lineno - node.lineno + 1, 40, place)


class Names(unittest.TestCase):
    def test_imports_name_the_file_that_defines_the_name(self):
        defined = {f"everyfuture.{name[:-3]}": bound_names(tree) for name, tree in trees()}
        defined["math"] = ["gcd"]
        for place, node in nodes((ast.Import, ast.ImportFrom)):
            self.assertIsInstance(node, ast.ImportFrom, place)
            for alias in node.names:
                self.assertIsNone(alias.asname, place)
                self.assertIn(alias.name, defined[node.module], place)

    def test_no_two_files_import_from_each_other(self):
        after = {name[:-3]: {node.module.split(".")[-1] for node in ast.walk(tree) if isinstance(node, ast.ImportFrom)}
                 for name, tree in trees()}
        while after:
            free = [name for name in after if not after[name] & set(after)]
            self.assertTrue(free, after)
            for name in free:
                del after[name]

    def test_a_name_is_bound_once_at_module_level(self):
        for name, tree in trees():
            names = [alias.name for node in tree.body if isinstance(node, ast.ImportFrom) for alias in node.names]
            names += [node.name for node in tree.body if isinstance(node, (ast.FunctionDef, ast.ClassDef))]
            names += [target.id for node in tree.body if isinstance(node, ast.Assign) for target in node.targets]
            self.assertEqual(len(names), len(set(names)), name)

    def test_no_name_of_a_builtin_an_import_or_a_class_is_given_another_meaning(self):
        for name, tree in trees():
            taken = {alias.name for node in tree.body if isinstance(node, ast.ImportFrom) for alias in node.names}
            taken |= {node.name for node in tree.body if isinstance(node, ast.ClassDef)}
            names = bound_names(tree)
            # An interactive example that ran before leaves "_" among the builtins.
            self.assertEqual([word for word in names if word in vars(builtins) and word != "_"], [], name)
            self.assertEqual([word for word in names if word in taken and names.count(word) > 1], [], name)

    def test_only_listed_builtins_are_used(self):
        for name, tree in trees():
            known = set(bound_names(tree)) | BUILTINS
            used = {node.id for node in ast.walk(tree) if isinstance(node, ast.Name)}
            self.assertEqual(sorted(used - known), [], name)

    def test_only_listed_and_own_methods_are_called(self):
        own = {node.name for _, tree in nodes(ast.ClassDef) for node in tree.body if isinstance(node, ast.FunctionDef)}
        for place, node in nodes(ast.Call):
            if isinstance(node.func, ast.Attribute):
                self.assertIn(node.func.attr, METHODS | own, place)

    def test_no_name_is_a_method_and_an_attribute(self):
        methods = {node.name for _, tree in nodes(ast.ClassDef) for node in tree.body
                   if isinstance(node, ast.FunctionDef)}
        stored = {node.attr for _, node in nodes(ast.Attribute) if isinstance(node.ctx, ast.Store)}
        self.assertEqual(sorted(methods & stored), [])

    def test_double_underscores(self):
        for place, node in nodes(ast.FunctionDef):
            if node.name.startswith("__"):
                self.assertIn(node.name, DOUBLE, place)

    def test_barred_words(self):
        for name, tree in trees():
            names = bound_names(tree) + [node.attr for node in ast.walk(tree) if isinstance(node, ast.Attribute)]
            self.assertEqual([word for word in names if BARRED.search(word)], [], name)


class Statements(unittest.TestCase):
    def test_statements_and_expressions(self):
        for place, node in nodes(ast.stmt):
            self.assertIsInstance(node, STATEMENTS, place)
        self.assertEqual(nodes(NOT_USED), [])

    def test_no_decorators_and_no_nested_functions(self):
        for place, node in nodes((ast.FunctionDef, ast.ClassDef)):
            self.assertEqual(node.decorator_list, [], place)
        for place, node in nodes(ast.FunctionDef):
            inner = [part for part in ast.walk(node) if isinstance(part, ast.FunctionDef)]
            self.assertEqual(inner, [node], place)

    def test_only_literal_integers_are_added_in_place(self):
        for place, node in nodes(ast.AugAssign):
            self.assertIsInstance(node.op, ast.Add, place)
            self.assertIsInstance(node.target, ast.Name, place)
            self.assertIsInstance(node.value, ast.Constant, place)

    def test_raised_errors_are_created_on_the_spot(self):
        for place, node in nodes(ast.Raise):
            self.assertIsInstance(node.exc, ast.Call, place)
            self.assertIsNone(node.cause, place)

    def test_only_own_errors_are_caught(self):
        own = {node.name for name, tree in trees() if name == "errors.py" for node in tree.body
               if isinstance(node, ast.ClassDef)}
        for place, node in nodes(ast.ExceptHandler):
            caught = node.type.elts if isinstance(node.type, ast.Tuple) else [node.type]
            self.assertTrue({name.id for name in caught} <= own, place)

    def test_finally_only_assigns(self):
        for place, node in nodes(ast.Try):
            for part in [inner for row in node.finalbody for inner in ast.walk(row)]:
                if isinstance(part, ast.stmt):
                    self.assertIsInstance(part, (ast.Assign, ast.If), place)
                if isinstance(part, ast.expr):
                    self.assertIsInstance(part, (ast.Name, ast.Attribute, ast.Constant, ast.Tuple, ast.Compare), place)
                if isinstance(part, ast.cmpop):
                    self.assertIsInstance(part, (ast.Is, ast.IsNot), place)

    def test_sets_are_only_asked_on_the_spot(self):
        for _, tree in trees():
            fine = [node.args[0] for node in ast.walk(tree) if isinstance(node, ast.Call)
                    and isinstance(node.func, ast.Name) and node.func.id in ("sorted", "len")]
            for node in ast.walk(tree):
                called = isinstance(node, ast.Call) and isinstance(node.func, ast.Name) and node.func.id == "set"
                if called or isinstance(node, ast.SetComp):
                    self.assertIn(node, fine, node.lineno)

    def test_kept_iterators(self):
        """zip, enumerate and reversed are iterated on the spot."""
        for place, node in nodes(ast.Assign):
            if isinstance(node.value, ast.Call) and isinstance(node.value.func, ast.Name):
                self.assertNotIn(node.value.func.id, ("zip", "enumerate", "reversed", "range", "iter"), place)

    def test_strings(self):
        for place, node in nodes(ast.Constant):
            if isinstance(node.value, str):
                self.assertNotIn("%", node.value, place)
            self.assertNotIsInstance(node.value, (float, bytes, complex), place)


if __name__ == "__main__":
    unittest.main()
