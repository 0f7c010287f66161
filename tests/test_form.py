"""The rules of the form that a test can see: files, characters, sizes, imports."""

import ast
import builtins
import os
import unittest

TOP = os.path.dirname(os.path.dirname(os.path.abspath(__file__)))
PACKAGE = os.path.join(TOP, "crcgate")
# Those of rule L8 that a function of the package may call.
ALLOWED = (
    "len range enumerate zip min max sum abs sorted reversed int str bool list tuple dict set"
    " isinstance ord repr any all divmod"
).split()


def sources():
    """The name and the text of each file of the package."""
    found = []
    for name in sorted(os.listdir(PACKAGE)):
        if name != "__pycache__":
            with open(os.path.join(PACKAGE, name), encoding="utf-8", newline="") as file:
                found.append((name, file.read()))
    return found


class TestForm(unittest.TestCase):
    def test_files(self):
        names = [name for name, _ in sources()]
        self.assertIn("__init__.py", names)
        for name in names:
            self.assertRegex(name, r"\A[a-z0-9_]+\.py\Z")

    def test_characters_and_lines(self):
        for name, text in sources():
            self.assertEqual([c for c in text if c != "\n" and not " " <= c <= "~"], [], name)
            lines = text.split("\n")
            self.assertLessEqual(len(lines), 399, name)
            self.assertLessEqual(max(len(line) for line in lines), 120, name)

    def test_functions_are_short(self):
        for name, text in sources():
            for node in ast.walk(ast.parse(text)):
                if isinstance(node, ast.FunctionDef):
                    self.assertLessEqual(node.end_lineno - node.lineno + 1, 40, (name, node.name))

    def test_imports_name_the_file_that_defines_the_name(self):
        defined = {}
        for name, text in sources():
            for node in ast.parse(text).body:
                here = defined.setdefault("crcgate." + name[:-3], [])
                if isinstance(node, (ast.FunctionDef, ast.ClassDef)):
                    here.append(node.name)
                if isinstance(node, ast.Assign):
                    here.extend(target.id for target in node.targets)
        for name, text in sources():
            for node in ast.walk(ast.parse(text)):
                self.assertNotIsInstance(node, ast.Import, name)
                if isinstance(node, ast.ImportFrom):
                    self.assertEqual(node.level, 0, name)
                    for alias in node.names:
                        self.assertIn(alias.name, defined.get(node.module, []), name)

    def test_no_number_with_a_point_and_no_true_division(self):
        for name, text in sources():
            for node in ast.walk(ast.parse(text)):
                self.assertNotIsInstance(node, ast.Div, name)
                if isinstance(node, ast.Constant):
                    self.assertNotIsInstance(node.value, (float, complex), name)

    def test_no_builtins_but_those_allowed(self):
        barred = [name for name in dir(builtins) if name not in ALLOWED and not name[0].isupper()]
        for name, text in sources():
            for node in ast.walk(ast.parse(text)):
                if isinstance(node, ast.Name):
                    self.assertNotIn(node.id, barred, (name, node.lineno))
                if isinstance(node, (ast.arg, ast.FunctionDef)):
                    named = node.arg if isinstance(node, ast.arg) else node.name
                    self.assertNotIn(named, dir(builtins), (name, node.lineno))

    def test_names_that_are_assigned_are_none_of_pythons_own_and_no_imports(self):
        for name, text in sources():
            tree = ast.parse(text)
            taken = dir(builtins) + [node.name for node in tree.body if isinstance(node, ast.ClassDef)]
            taken += [a.name for node in tree.body if isinstance(node, ast.ImportFrom) for a in node.names]
            for node in ast.walk(tree):
                if isinstance(node, ast.arg):
                    self.assertNotIn(node.arg, taken, (name, node.lineno))
                if isinstance(node, ast.Name) and isinstance(node.ctx, ast.Store):
                    self.assertNotIn(node.id, taken, (name, node.lineno))

    def test_no_sign_37_in_a_string(self):
        for name, text in sources():
            for node in ast.walk(ast.parse(text)):
                if isinstance(node, ast.Constant) and isinstance(node.value, str):
                    self.assertNotIn(chr(37), node.value, (name, node.lineno))

    def test_no_name_is_a_method_and_an_attribute_in_one_class(self):
        for name, text in sources():
            for made in ast.walk(ast.parse(text)):
                if isinstance(made, ast.ClassDef):
                    methods = [node.name for node in made.body if isinstance(node, ast.FunctionDef)]
                    self.assertEqual(len(methods), len(set(methods)), (name, made.name))
                    for node in ast.walk(made):
                        if isinstance(node, ast.Attribute) and isinstance(node.ctx, ast.Store):
                            self.assertNotIn(node.attr, methods, (name, node.lineno))
