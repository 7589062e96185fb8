"""The form of the package's files: sizes, characters, imports and words."""

import ast
import pathlib
import re
import unittest

PACKAGE = pathlib.Path(__file__).resolve().parent.parent / "translatory"
FROM_LIBRARY = {("math", "gcd")}
NAME = re.compile("_?[A-Za-z][A-Za-z0-9_]*")
DOUBLE_UNDERSCORES = {"__init__", "__eq__"}
UNUSED_NAMES = {"register", "mro", "elements", "open", "input", "eval", "exec", "print", "chr"}


def names_in(node):
    """The names that stand in a node itself."""
    found = [getattr(node, field, None) for field in ("id", "arg", "attr", "name", "asname")]
    return [name for name in found if isinstance(name, str)]


class FormTest(unittest.TestCase):
    def setUp(self):
        self.paths = [path for path in sorted(PACKAGE.iterdir()) if path.name != "__pycache__"]
        self.texts = {path.name: path.read_text() for path in self.paths}

    def nodes(self):
        for name, text in self.texts.items():
            for node in ast.walk(ast.parse(text)):
                yield name, node

    def test_only_python_files(self):
        for path in self.paths:
            self.assertTrue(path.is_file() and path.suffix == ".py", path)

    def test_sizes_and_characters(self):
        for name, text in self.texts.items():
            lines = text.splitlines()
            self.assertLessEqual(len(lines), 399, name)
            self.assertLessEqual(max(map(len, lines)), 120, name)
            self.assertTrue(all(sign == "\n" or " " <= sign <= "~" for sign in text), name)

    def test_functions_have_at_most_40_lines(self):
        for name, node in self.nodes():
            if isinstance(node, ast.FunctionDef):
                self.assertLessEqual(node.end_lineno - node.lineno + 1, 40, (name, node.name))

    def test_imports(self):
        for name, node in self.nodes():
            self.assertNotIsInstance(node, ast.Import, name)
            if isinstance(node, ast.ImportFrom):
                for alias in node.names:
                    is_own = node.module.startswith("translatory.")
                    self.assertTrue(is_own or (node.module, alias.name) in FROM_LIBRARY, name)

    def test_class_names_begin_with_a_letter(self):
        for name, node in self.nodes():
            if isinstance(node, ast.ClassDef):
                self.assertRegex(node.name, "^[A-Za-z]", name)

    def test_names_begin_with_at_most_one_underscore(self):
        for name, node in self.nodes():
            for found in names_in(node):
                # A plain underscore is assigned, and never read.
                is_unread = found == "_" and isinstance(getattr(node, "ctx", None), ast.Store)
                self.assertTrue(NAME.fullmatch(found) or is_unread or found in DOUBLE_UNDERSCORES, (name, found))

    def test_no_name_is_a_method_and_an_attribute(self):
        methods = {part.name for _, node in self.nodes() if isinstance(node, ast.ClassDef)
                   for part in node.body if isinstance(part, ast.FunctionDef)}
        for name, node in self.nodes():
            if isinstance(node, ast.Attribute) and isinstance(node.ctx, ast.Store):
                self.assertNotIn(node.attr, methods, name)

    def test_names_that_are_not_used(self):
        for name, node in self.nodes():
            for found in names_in(node):
                self.assertNotIn(found, UNUSED_NAMES, name)
