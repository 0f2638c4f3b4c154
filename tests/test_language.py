"""Those rules for the code of the package that can be read off its files."""

import ast
import builtins
import os
import unittest

PACKAGE = os.path.join(os.path.dirname(os.path.dirname(os.path.abspath(__file__))), "pastekeys")
BUILTINS = {
    "len", "range", "enumerate", "zip", "min", "max", "sum", "abs", "sorted", "reversed", "int", "str",
    "bool", "bytes", "list", "tuple", "dict", "set", "isinstance", "ord", "any", "all", "divmod",
    "ValueError", "TypeError", "NotImplemented", "super", "property", "classmethod",
}
METHODS = {
    "__init__", "__eq__", "__len__", "__enter__", "__exit__", "__call__", "__iter__", "__add__",
    "__mul__", "__contains__", "__getitem__",
}
LISTED = {
    "texts.py": {"Text"},
    "counting.py": {"key_counts", "letter_counts", "letters_between", "nth_place_of_key",
                    "nth_place_of_letter", "places_of_key"},
    "ties.py": {"equal_classes", "fewest_for_equal", "mirror_classes", "period_classes",
                "fewest_for_mirror", "fewest_for_period", "cheapest_period", "retyped_by",
                "tie_pattern", "first_unlike_tie"},
    "editor.py": {"Editor"},
    "hidden.py": {"KeyReader"},
    "notation.py": {"format_text", "parse_text", "key_table"},
    "codec.py": {"pack_bytes", "unpack_bytes", "encode_text", "decode_text"},
}
LISTED_METHODS = {
    ("texts.py", "Text"): {
        "__init__", "__call__", "__getitem__", "__contains__", "__eq__", "__add__", "__mul__", "__iter__",
        "of_word", "of_steps", "retyped", "steps", "typed_keys", "size"},
    ("editor.py", "Editor"): {
        "__init__", "__len__", "__enter__", "__exit__", "write", "paste", "retype", "present_text", "history",
        "undo", "redo", "apply", "replay", "sizes_after", "is_possible"},
    ("hidden.py", "KeyReader"): {
        "__init__", "__getitem__", "__iter__", "see", "see_word", "hear_alike", "from_log", "known_letters",
        "observations", "count_texts", "is_surely_alike", "fewest_places", "text_with"},
}
BARRED = (ast.Global, ast.Import, ast.AsyncFunctionDef, ast.Await, ast.Div)


def sources():
    for name in sorted(os.listdir(PACKAGE)):
        if name != "__pycache__":
            with open(os.path.join(PACKAGE, name), encoding="utf-8") as file:
                yield name, file.read()


class Language(unittest.TestCase):
    def test_files_and_lines(self):
        for name, source in sources():
            self.assertRegex(name, r"\A[a-z_]+\.py\Z")
            lines = source.split("\n")
            self.assertLessEqual(len(lines), 399, name)
            for number, line in enumerate(lines, 1):
                self.assertRegex(line, r"\A[ -~]{0,120}\Z", f"{name}:{number}")

    def test_functions_are_short(self):
        for name, source in sources():
            for node in ast.walk(ast.parse(source)):
                if isinstance(node, ast.FunctionDef):
                    self.assertLessEqual(node.end_lineno - node.lineno + 1, 40, f"{name}:{node.name}")
                    if node.name.startswith("__"):
                        self.assertIn(node.name, METHODS, name)

    def test_nodes(self):
        for name, source in sources():
            for node in ast.walk(ast.parse(source)):
                self.assertNotIsInstance(node, BARRED, f"{name}:{getattr(node, 'lineno', 0)}")
                if isinstance(node, ast.ImportFrom):
                    self.assertTrue(node.module.startswith("pastekeys."), name)
                    self.assertEqual([alias.asname for alias in node.names], [None] * len(node.names))
                if isinstance(node, ast.Constant):
                    self.assertNotIsInstance(node.value, (float, complex))
                    if isinstance(node.value, str):
                        self.assertNotIn("%", node.value, name)

    def test_builtins(self):
        for name, source in sources():
            for node in ast.walk(ast.parse(source)):
                if isinstance(node, ast.Name) and node.id in dir(builtins):
                    self.assertIn(node.id, BUILTINS, f"{name}:{node.lineno}")
                    self.assertIsInstance(node.ctx, ast.Load, f"{name}:{node.lineno}")

    def test_rest_stands_behind_numbers(self):
        # The package makes bytes, and bytes have a sign for the rest, too.
        for name, source in sources():
            for node in ast.walk(ast.parse(source)):
                if isinstance(node, (ast.BinOp, ast.AugAssign)):
                    self.assertNotIsInstance(node.op, ast.Mod, f"{name}:{node.lineno}")

    def test_interface_is_defined_where_it_is_listed(self):
        for name, listed in LISTED.items():
            body = ast.parse(dict(sources())[name]).body
            defined = {node.name for node in body if isinstance(node, (ast.FunctionDef, ast.ClassDef))}
            self.assertEqual(listed - defined, set(), name)

    def test_methods_stand_in_the_class_itself(self):
        for (name, owner), listed in LISTED_METHODS.items():
            body = ast.parse(dict(sources())[name]).body
            found = [node for node in body if isinstance(node, ast.ClassDef) and node.name == owner]
            defined = {node.name for node in found[0].body if isinstance(node, ast.FunctionDef)}
            self.assertEqual(listed - defined, set(), owner)


if __name__ == "__main__":
    unittest.main()
