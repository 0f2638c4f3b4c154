"""Those rules for the code of the package that can be read off its files."""

import ast
import builtins
import os
import unittest

PACKAGE = os.path.join(os.path.dirname(os.path.dirname(os.path.abspath(__file__))), "pastekeys")
BUILTINS = {
    "len", "range", "enumerate", "zip", "min", "max", "sum", "abs", "sorted", "reversed", "int", "str",
    "bool", "bytes", "list", "tuple", "dict", "set", "isinstance", "ord", "any", "all", "divmod",
    "ValueError", "TypeError", "NotImplemented", "super", "property", "classmethod",
}
METHODS = {
    "__init__", "__eq__", "__len__", "__enter__", "__exit__", "__call__", "__iter__", "__add__",
    "__mul__", "__contains__", "__getitem__",
}
LISTED = {
    "texts.py": {"Text"},
    "counting.py": {"key_counts", "letter_counts", "letters_between", "nth_place_of_key",
                    "nth_place_of_letter", "places_of_key"},
    "ties.py": {"equal_classes", "fewest_for_equal", "mirror_classes", "period_classes",
                "fewest_for_mirror", "fewest_for_period", "cheapest_period", "retyped_by",
                "tie_pattern", "first_unlike_tie"},
}
BARRED = (ast.Global, ast.Import, ast.AsyncFunctionDef, ast.Await, ast.Div)


def sources():
    for name in sorted(os.listdir(PACKAGE)):
        if name != "__pycache__":
            with open(os.path.join(PACKAGE, name), encoding="utf-8") as file:
                yield name, file.read()


class Language(unittest.TestCase):
    def test_files_and_lines(self):
        for name, source in sources():
            self.assertRegex(name, r"\A[a-z_]+\.py\Z")
            lines = source.split("\n")
            self.assertLessEqual(len(lines), 399, name)
            for number, line in enumerate(lines, 1):
                self.assertRegex(line, r"\A[ -~]{0,120}\Z", f"{name}:{number}")

    def test_functions_are_short(self):
        for name, source in sources():
            for node in ast.walk(ast.parse(source)):
                if isinstance(node, ast.FunctionDef):
                    self.assertLessEqual(node.end_lineno - node.lineno + 1, 40, f"{name}:{node.name}")
                    if node.name.startswith("__"):
                        self.assertIn(node.name, METHODS, name)

    def test_nodes(self):
        for name, source in sources():
            for node in ast.walk(ast.parse(source)):
                self.assertNotIsInstance(node, BARRED, f"{name}:{getattr(node, 'lineno', 0)}")
                if isinstance(node, ast.ImportFrom):
                    self.assertTrue(node.module.startswith("pastekeys."), name)
                    self.assertEqual([alias.asname for alias in node.names], [None] * len(node.names))
                if isinstance(node, ast.Constant):
                    self.assertNotIsInstance(node.value, (float, complex))
                    if isinstance(node.value, str):
                        self.assertNotIn("%", node.value, name)

    def test_builtins(self):
        for name, source in sources():
            for node in ast.walk(ast.parse(source)):
                if isinstance(node, ast.Name) and node.id in dir(builtins):
                    self.assertIn(node.id, BUILTINS, f"{name}:{node.lineno}")
                    self.assertIsInstance(node.ctx, ast.Load, f"{name}:{node.lineno}")

    def test_interface_is_defined_where_it_is_listed(self):
        for name, source in sources():
            if name in LISTED:
                body = ast.parse(source).body
                defined = {node.name for node in body if isinstance(node, (ast.FunctionDef, ast.ClassDef))}
                self.assertEqual(LISTED[name] - defined, set(), name)

    def test_methods_stand_in_the_class_itself(self):
        source = dict(sources())["texts.py"]
        body = [node for node in ast.parse(source).body if isinstance(node, ast.ClassDef)][0].body
        defined = {node.name for node in body if isinstance(node, ast.FunctionDef)}
        listed = {"__call__", "__getitem__", "__contains__", "__eq__", "__add__", "__mul__", "of_word",
                  "of_steps", "retyped", "steps", "typed_keys", "size"}
        self.assertEqual(listed - defined, set())


if __name__ == "__main__":
    unittest.main()
