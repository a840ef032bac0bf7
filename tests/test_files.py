"""The files of the package: their sizes, signs, imports and places."""

import ast
import os
import unittest

import aheadbehind

FOLDER = os.path.dirname(os.path.abspath(aheadbehind.__file__))
LIBRARY = ("heapq", "math", "itertools", "collections", "__future__")


def files():
    """A tuple (name, text) for each file of the package."""
    rows = []
    for name in sorted(os.listdir(FOLDER)):
        if name != "__pycache__":
            with open(os.path.join(FOLDER, name), encoding="utf-8") as held:
                rows.append((name, held.read()))
    return rows


class TestFiles(unittest.TestCase):
    def test_names(self):
        for name, _ in files():
            self.assertRegex(name, r"\A[a-z0-9_]+\.py\Z")

    def test_sizes_and_signs(self):
        for name, text in files():
            rows = text.split("\n")
            self.assertLessEqual(len(rows) - 1, 399, name)
            for number, row in enumerate(rows, 1):
                with self.subTest(file=name, line=number):
                    self.assertLessEqual(len(row), 120)
                    self.assertTrue(all(" " <= sign <= "~" for sign in row))

    def test_sizes_of_functions(self):
        for name, text in files():
            for node in ast.walk(ast.parse(text)):
                if isinstance(node, ast.FunctionDef):
                    self.assertLessEqual(node.end_lineno - node.lineno + 1, 40, f"{name} {node.name}")

    def test_imports(self):
        for name, text in files():
            for node in ast.walk(ast.parse(text)):
                self.assertFalse(isinstance(node, ast.Import), name)
                if isinstance(node, ast.ImportFrom):
                    self.assertEqual(node.level, 0, name)
                    self.assertIn(node.module.split(".")[0], ("aheadbehind",) + LIBRARY, name)
                    self.assertTrue(all(alias.asname is None and alias.name != "*" for alias in node.names), name)

    def test_each_imported_name_is_defined_where_it_comes_from_and_used(self):
        texts = dict(files())
        for name, text in texts.items():
            tree = ast.parse(text)
            used = {node.id for node in ast.walk(tree) if isinstance(node, ast.Name)}
            for node in tree.body:
                if isinstance(node, ast.ImportFrom) and node.module.startswith("aheadbehind."):
                    source = ast.parse(texts[node.module.split(".")[1] + ".py"])
                    defined = {item.name for item in source.body if isinstance(item, (ast.FunctionDef, ast.ClassDef))}
                    for alias in node.names:
                        self.assertIn(alias.name, defined, name)
                        self.assertIn(alias.name, used, name)


class TestInterface(unittest.TestCase):
    """Each name of the interface is defined in its file, with its parameters under their names."""

    def parameters(self, file, path):
        body = ast.parse(dict(files())[file]).body
        for part in path.split("."):
            found = [item for item in body if getattr(item, "name", None) == part]
            self.assertEqual(len(found), 1, f"{file} {path}")
            body = found[0].body
        return ast.unparse(found[0].args)

    def test_stage_1(self):
        for name in ("is_integer", "is_count", "is_name", "is_sign", "is_row"):
            self.assertEqual(self.parameters("basics.py", name), "value")
        methods = {
            "__init__": "self, states, starts, steps=()", "is_step": "states, value", "of_row": "cls, row",
            "states": "self", "is_sure": "self", "starts": "self", "steps": "self", "calls": "self", "answers": "self",
            "signs": "self", "reachable": "self", "steps_from": "self, state", "steps_to": "self, state",
            "without": "self, steps", "with_starts": "self, starts", "part": "self", "numbered": "self, order",
            "turned": "self", "__getitem__": "self, at", "__len__": "self", "__contains__": "self, x",
            "__iter__": "self", "__add__": "self, other", "__radd__": "self, other", "__sub__": "self, other",
            "__eq__": "self, other", "__repr__": "self",
        }
        for name, wanted in methods.items():
            self.assertEqual(self.parameters("boxes.py", "Box." + name), wanted)
