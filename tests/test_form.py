"""The package's form: it imports, prints and reads nothing, and keeps to the sizes and signs it may have."""

import ast
import builtins
import contextlib
import io
import os
import unittest

import exactplane
from exactplane import plane

FOLDER = os.path.dirname(os.path.abspath(exactplane.__file__))
ALLOWED_NAMES = ("abs", "all", "any", "divmod", "enumerate", "len", "list", "max", "min", "range", "reversed", "set",
                 "sorted", "sum", "tuple", "zip", "True", "False", "None")
ALLOWED_METHODS = ("append", "extend", "insert", "pop", "reverse", "setdefault")
OTHER_FORMS = (ast.AsyncFunctionDef, ast.Assert, ast.AugAssign, ast.Await, ast.ClassDef, ast.Delete, ast.DictComp,
               ast.GeneratorExp, ast.Is, ast.IsNot, ast.JoinedStr, ast.Match, ast.NamedExpr, ast.Raise, ast.Starred,
               ast.Try, ast.With, ast.Yield, ast.YieldFrom)


def sources():
    for name in sorted(os.listdir(FOLDER)):
        if name != "__pycache__":
            with open(os.path.join(FOLDER, name), encoding="utf-8") as file:
                yield name, file.read()


class FormTest(unittest.TestCase):
    def test_only_python_files(self):
        names = [name for name, text in sources()]
        self.assertIn("__init__.py", names)
        self.assertIn("plane.py", names)
        self.assertEqual([name for name in names if not name.endswith(".py")], [])

    def test_signs_and_sizes(self):
        for name, text in sources():
            self.assertTrue(all(sign == "\n" or " " <= sign <= "~" for sign in text), name)
            lines = text.splitlines()
            self.assertLessEqual(len(lines), 400, name)
            self.assertLessEqual(max(len(line) for line in lines), 120, name)

    def test_functions_are_small(self):
        for name, text in sources():
            for node in ast.walk(ast.parse(text)):
                if isinstance(node, ast.FunctionDef):
                    self.assertLessEqual(node.end_lineno - node.lineno + 1, 40, node.name)

    def test_nothing_is_imported(self):
        for name, text in sources():
            for node in ast.walk(ast.parse(text)):
                self.assertNotIsInstance(node, (ast.Import, ast.ImportFrom), name)

    def test_no_floats_and_no_other_names_of_python(self):
        builtin_names = dir(builtins)
        for name, text in sources():
            for node in ast.walk(ast.parse(text)):
                if isinstance(node, ast.Name) and node.id in builtin_names:
                    self.assertIn(node.id, ALLOWED_NAMES, name)
                self.assertNotIsInstance(node, ast.Div, name)
                self.assertFalse(isinstance(node, ast.Constant) and isinstance(node.value, float), name)

    def test_sets_are_only_sorted_or_counted(self):
        for name, text in sources():
            tree = ast.parse(text)
            for node in ast.walk(tree):
                self.assertNotIsInstance(node, (ast.Set, ast.SetComp), name)
            calls = [node for node in ast.walk(tree) if isinstance(node, ast.Call) and isinstance(node.func, ast.Name)]
            around = [node for node in calls if node.func.id in ("sorted", "len") and not node.keywords]
            allowed = [node.args[0].func for node in around if isinstance(node.args[0], ast.Call)]
            for node in ast.walk(tree):
                if isinstance(node, ast.Name) and node.id == "set":
                    self.assertIn(node, allowed, name)

    def test_plain_forms_alone(self):
        for name, text in sources():
            for node in ast.walk(ast.parse(text)):
                self.assertNotIsInstance(node, OTHER_FORMS, name)
                self.assertFalse(getattr(node, "decorator_list", []), name)
                if isinstance(node, (ast.For, ast.While)):
                    self.assertEqual(node.orelse, [], name)
                if isinstance(node, ast.Attribute):
                    self.assertIn(node.attr, ALLOWED_METHODS, name)
                if isinstance(node, ast.Assign):
                    self.assertEqual(len(node.targets), 1, name)
                if isinstance(node, ast.comprehension):
                    self.assertLessEqual(len(node.ifs), 1, name)
                if isinstance(node, ast.ListComp):
                    self.assertEqual(len(node.generators), 1, name)

    def test_pythons_own_names_keep_their_meaning(self):
        builtin_names = dir(builtins)
        for name, text in sources():
            for node in ast.walk(ast.parse(text)):
                if isinstance(node, ast.Name) and isinstance(node.ctx, ast.Store):
                    self.assertNotIn(node.id, builtin_names, name)
                if isinstance(node, ast.arg):
                    self.assertNotIn(node.arg, builtin_names, name)
                if isinstance(node, ast.FunctionDef):
                    self.assertNotIn(node.name, builtin_names, name)

    def test_names_begin_with_a_letter(self):
        for name, text in sources():
            for node in ast.walk(ast.parse(text)):
                for field in ("id", "attr", "arg"):
                    self.assertFalse(str(getattr(node, field, "")).startswith("_"), name)
                if isinstance(node, ast.FunctionDef):
                    self.assertFalse(node.name.startswith("_"), name)

    def test_nothing_is_kept_at_the_top(self):
        for name, text in sources():
            for node in ast.parse(text).body:
                if isinstance(node, ast.Assign):
                    self.assertIsInstance(node.value, ast.Constant, name)
            for node in ast.walk(ast.parse(text)):
                self.assertNotIsInstance(node, (ast.Global, ast.Nonlocal), name)

    def test_arguments_are_called_as_told(self):
        self.assertEqual(plane.side(abc=[0, 0, 1, 0, 0, 1]), [1])
        self.assertEqual(plane.meet(abcd=[0, 0, 1, 0, 0, 0, 0, 1]), [2])
        self.assertEqual(plane.hull(n=1, p=[5, 6]), [1, 5, 6])
        self.assertEqual(plane.area(n=3, p=[0, 0, 1, 0, 0, 1]), [0, 1])
        self.assertEqual(plane.within(n=3, p=[0, 0, 4, 0, 0, 4], q=[1, 1]), [1])
        self.assertEqual(plane.simple(n=3, p=[0, 0, 1, 0, 0, 1]), [1])
        self.assertEqual(plane.nearest(n=3, p=[0, 0, 4, 0, 0, 3]), [0, 0, 2, 9])
        self.assertEqual(plane.around(n=2, o=[1, 0], p=[0, 0, 2, 0]), [0, 2, 0, 0, 0])

    def test_nothing_is_printed(self):
        out = io.StringIO()
        with contextlib.redirect_stdout(out), contextlib.redirect_stderr(out):
            plane.side([0, 0, 1, 0, 0, 1])
            plane.meet([0, 0, 1, 0, 0, 0, 0, 1])
            for call in (plane.hull, plane.area, plane.simple, plane.nearest):
                call(3, [0, 0, 1, 0, 0, 1])
                call(0, [])
            plane.within(3, [0, 0, 1, 0, 0, 1], [5, 5])
            plane.within(0, [], [5, 5])
            plane.around(3, [5, 5], [0, 0, 1, 0, 0, 1])
            plane.around(0, [5, 5], [])
        self.assertEqual(out.getvalue(), "")


if __name__ == "__main__":
    unittest.main()
