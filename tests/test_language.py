"""The form of the package's own files: those rules of the language that a walk over the code can see."""

import ast
import pathlib
import re
import unittest

TOP = pathlib.Path(__file__).resolve().parent.parent
FILES = sorted((TOP / "drivershours").glob("*.py"))

ALLOWED = (
    ast.Module, ast.FunctionDef, ast.ClassDef, ast.arguments, ast.arg, ast.ImportFrom, ast.alias,
    ast.Assign, ast.AugAssign, ast.If, ast.While, ast.For, ast.Return, ast.Break, ast.Continue, ast.Pass,
    ast.Raise, ast.Try, ast.ExceptHandler, ast.Expr, ast.Call, ast.keyword, ast.Name, ast.Attribute,
    ast.Subscript, ast.Slice, ast.Constant, ast.List, ast.Tuple, ast.Dict, ast.BinOp, ast.UnaryOp,
    ast.BoolOp, ast.Compare, ast.IfExp, ast.ListComp, ast.comprehension, ast.Lambda, ast.JoinedStr,
    ast.FormattedValue, ast.expr_context, ast.operator, ast.unaryop, ast.boolop, ast.cmpop)
OWN_NAMES = (
    "len range enumerate zip min max sum abs sorted reversed int str bool list tuple dict set isinstance "
    "repr any all divmod ValueError").split()
OWN_METHODS = (
    "append clear copy count extend find get index insert items keys pop remove replace reverse setdefault "
    "update values").split()
NOT_WRITTEN = ("type typing enum Enum Flag Generic Protocol ABC namedtuple NamedTuple TypedDict "
               "abstractmethod").split()
NOT_NAMED = "register mro elements open input id exec eval super vars hash next map format".split()


def bound_names(tree):
    names = set()
    for node in ast.walk(tree):
        if isinstance(node, (ast.FunctionDef, ast.ClassDef)):
            names.add(node.name)
        elif isinstance(node, ast.arg):
            names.add(node.arg)
        elif isinstance(node, ast.alias):
            names.add(node.name)
        elif isinstance(node, ast.Name) and isinstance(node.ctx, ast.Store):
            names.add(node.id)
    return names


class Form(unittest.TestCase):
    def setUp(self):
        self.texts = [(file.name, file.read_text(encoding="utf-8")) for file in FILES]
        self.trees = [(name, ast.parse(text)) for name, text in self.texts]

    def test_only_such_files_lie_in_the_package(self):
        lie_there = [file for file in (TOP / "drivershours").iterdir() if file.name != "__pycache__"]
        self.assertEqual(sorted(lie_there), FILES)
        for file in FILES:
            self.assertRegex(file.name, r"^(__init__|[a-z][a-z0-9_]*)\.py$")

    def test_size_and_signs(self):
        for name, text in self.texts:
            rows = text.split("\n")
            self.assertLess(len(rows), 400, name)
            for row in rows:
                self.assertLessEqual(len(row), 120, name)
                self.assertRegex(row, r"^[ -~]*$", name)
            for node in ast.walk(ast.parse(text)):
                if isinstance(node, ast.FunctionDef):
                    self.assertLessEqual(node.end_lineno - node.lineno, 39, (name, node.name))

    def test_words_that_stand_nowhere(self):
        for name, text in self.texts:
            words = re.findall(r"\w+", text)
            self.assertEqual([word for word in words if word in NOT_WRITTEN], [], name)

    def test_statements_and_expressions(self):
        for name, tree in self.trees:
            for node in ast.walk(tree):
                self.assertIsInstance(node, ALLOWED, name)
                if isinstance(node, ast.BinOp):
                    self.assertNotIsInstance(node.op, (ast.Div, ast.MatMult), name)
                if isinstance(node, ast.Constant):
                    self.assertIsInstance(node.value, (int, str, type(None)), name)
                if isinstance(node, (ast.For, ast.While)):
                    self.assertEqual(node.orelse, [], name)
                if isinstance(node, ast.Assign):
                    self.assertEqual(len(node.targets), 1, name)
                if isinstance(node, ast.FunctionDef):
                    self.assertEqual(node.decorator_list, [], name)

    def test_imports_are_of_the_package_and_from_the_file_that_defines(self):
        defines = {}
        for name, tree in self.trees:
            defines["drivershours." + name[:-3]] = [
                target for node in tree.body for target in (
                    [node.name] if isinstance(node, (ast.FunctionDef, ast.ClassDef))
                    else [node.targets[0].id] if isinstance(node, ast.Assign) else [])]
        for name, tree in self.trees:
            for node in ast.walk(tree):
                if isinstance(node, ast.ImportFrom):
                    self.assertEqual(node.level, 0)
                    for alias in node.names:
                        self.assertIn(alias.name, defines[node.module], name)

    def test_names(self):
        for name, tree in self.trees:
            own = bound_names(tree)
            for bound in own - {"__init__"}:
                self.assertRegex(bound, r"^[A-Za-z][A-Za-z0-9_]*$", name)
                self.assertNotIn(bound, OWN_NAMES + NOT_WRITTEN + NOT_NAMED, name)
            for node in ast.walk(tree):
                if isinstance(node, ast.Name):
                    self.assertIn(node.id, list(own) + OWN_NAMES, name)

    def test_methods_are_own_ones_or_those_of_plain_values(self):
        own = set()
        for _, tree in self.trees:
            own |= bound_names(tree)
        for name, tree in self.trees:
            for node in ast.walk(tree):
                if isinstance(node, ast.Call) and isinstance(node.func, ast.Attribute):
                    self.assertIn(node.func.attr, list(own) + OWN_METHODS, name)

    def test_no_name_is_a_method_and_a_value(self):
        methods = {node.name for _, tree in self.trees for made in tree.body if isinstance(made, ast.ClassDef)
                   for node in made.body}
        values = {node.attr for _, tree in self.trees for node in ast.walk(tree)
                  if isinstance(node, ast.Attribute) and isinstance(node.ctx, ast.Store)}
        self.assertEqual(methods & values, set())

    def test_no_file_draws_from_one_that_draws_from_it(self):
        draws = {}
        for name, tree in self.trees:
            draws["drivershours." + name[:-3]] = {
                node.module for node in ast.walk(tree) if isinstance(node, ast.ImportFrom)}
        while draws:
            free = [name for name in draws if not draws[name] & set(draws)]
            self.assertNotEqual(free, [], draws)
            for name in free:
                del draws[name]


if __name__ == "__main__":
    unittest.main()
