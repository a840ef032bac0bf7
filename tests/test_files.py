"""The files of the package: their sizes, signs, imports and places."""

import ast
import builtins
import os
import unittest

import aheadbehind

FOLDER = os.path.dirname(os.path.abspath(aheadbehind.__file__))
LIBRARY = ("heapq", "math", "itertools", "collections", "__future__")


def files():
    """A tuple (name, text) for each file of the package."""
    rows = []
    for name in sorted(os.listdir(FOLDER)):
        if name != "__pycache__":
            with open(os.path.join(FOLDER, name), encoding="utf-8") as held:
                rows.append((name, held.read()))
    return rows


def own_names(tree):
    """The names that a file itself gives to functions, classes and values at its top."""
    names = {item.name for item in tree.body if isinstance(item, (ast.FunctionDef, ast.ClassDef))}
    return names | {item.targets[0].id for item in tree.body if isinstance(item, ast.Assign)}


def imported_names(tree):
    """The dict from the names that a file imports to the files that they come from."""
    return {alias.name: node.module.split(".")[-1] + ".py" for node in tree.body if isinstance(node, ast.ImportFrom)
            for alias in node.names}


def inner_names(tree):
    """The parameters and the local variables of all functions, and the functions in functions."""
    names = []
    for function in ast.walk(tree):
        if isinstance(function, (ast.FunctionDef, ast.Lambda)):
            for node in ast.walk(function):
                if isinstance(node, ast.arg):
                    names.append(node.arg)
                elif isinstance(node, ast.Name) and isinstance(node.ctx, ast.Store):
                    names.append(node.id)
                elif isinstance(node, ast.FunctionDef) and node is not function:
                    names.append(node.name)
    return names


class TestFiles(unittest.TestCase):
    def test_names(self):
        for name, _ in files():
            self.assertRegex(name, r"\A[a-z0-9_]+\.py\Z")

    def test_sizes_and_signs(self):
        for name, text in files():
            rows = text.split("\n")
            self.assertLessEqual(len(rows) - 1, 399, name)
            for number, row in enumerate(rows, 1):
                with self.subTest(file=name, line=number):
                    self.assertLessEqual(len(row), 120)
                    self.assertTrue(all(" " <= sign <= "~" for sign in row))

    def test_sizes_of_functions(self):
        for name, text in files():
            for node in ast.walk(ast.parse(text)):
                if isinstance(node, ast.FunctionDef):
                    self.assertLessEqual(node.end_lineno - node.lineno + 1, 40, f"{name} {node.name}")

    def test_imports(self):
        for name, text in files():
            for node in ast.walk(ast.parse(text)):
                self.assertFalse(isinstance(node, ast.Import), name)
                if isinstance(node, ast.ImportFrom):
                    self.assertEqual(node.level, 0, name)
                    self.assertIn(node.module.split(".")[0], ("aheadbehind",) + LIBRARY, name)
                    self.assertTrue(all(alias.asname is None and alias.name != "*" for alias in node.names), name)

    def test_each_imported_name_is_defined_where_it_comes_from_and_used(self):
        texts = dict(files())
        for name, text in texts.items():
            tree = ast.parse(text)
            used = {node.id for node in ast.walk(tree) if isinstance(node, ast.Name)}
            for node in tree.body:
                if isinstance(node, ast.ImportFrom) and node.module.startswith("aheadbehind."):
                    defined = own_names(ast.parse(texts[node.module.split(".")[1] + ".py"]))
                    for alias in node.names:
                        self.assertIn(alias.name, defined, name)
                        self.assertIn(alias.name, used, name)


    def test_inner_names_are_no_names_of_imports_classes_and_builtins(self):
        for name, text in files():
            tree = ast.parse(text)
            taken = set(imported_names(tree)) | {item.name for item in tree.body if isinstance(item, ast.ClassDef)}
            for inner in inner_names(tree):
                self.assertNotIn(inner, taken, name)
                # Running examples keeps the last value as _ among the builtins.
                self.assertFalse(inner != "_" and hasattr(builtins, inner), f"{name} {inner}")

    def test_no_two_files_import_from_each_other(self):
        sources = {name: set(imported_names(ast.parse(text)).values()) for name, text in files()}
        while sources:
            free = [name for name, needed in sources.items() if not needed & set(sources)]
            self.assertTrue(free, sources)
            for name in free:
                del sources[name]

    def test_properties_have_names_of_their_own(self):
        properties, others = set(), set()
        for name, text in files():
            for node in ast.walk(ast.parse(text)):
                if isinstance(node, ast.ClassDef):
                    for item in node.body:
                        if isinstance(item, ast.FunctionDef):
                            marks = [ast.unparse(mark) for mark in item.decorator_list]
                            marked = "property" in marks or f"{item.name}.setter" in marks
                            (properties if marked else others).add(item.name)
                        elif isinstance(item, ast.Assign):
                            others.add(item.targets[0].id)
        self.assertEqual(properties & others, set())

    def test_no_literal_float_and_no_division(self):
        for name, text in files():
            for node in ast.walk(ast.parse(text)):
                self.assertFalse(isinstance(node, ast.Div), name)
                self.assertFalse(isinstance(node, ast.Constant) and isinstance(node.value, float), name)


class TestInterface(unittest.TestCase):
    """Each name of the interface is defined in its file, with its parameters under their names."""

    def parameters(self, file, path):
        body = ast.parse(dict(files())[file]).body
        for part in path.split("."):
            found = [item for item in body if getattr(item, "name", None) == part and not self.is_setter(item)]
            self.assertEqual(len(found), 1, f"{file} {path}")
            body = found[0].body
        return ast.unparse(found[0].args)

    def is_setter(self, item):
        """Whether it is the second one of the two that make a property which can be set."""
        return f"{item.name}.setter" in [ast.unparse(mark) for mark in item.decorator_list]

    def test_stage_1(self):
        for name in ("is_integer", "is_count", "is_name", "is_sign", "is_row"):
            self.assertEqual(self.parameters("basics.py", name), "value")
        methods = {
            "__init__": "self, states, starts, steps=()", "is_step": "states, value", "of_row": "cls, row",
            "states": "self", "is_sure": "self", "starts": "self", "steps": "self", "calls": "self", "answers": "self",
            "signs": "self", "reachable": "self", "steps_from": "self, state", "steps_to": "self, state",
            "without": "self, steps", "with_starts": "self, starts", "part": "self", "numbered": "self, order",
            "turned": "self", "__getitem__": "self, at", "__len__": "self", "__contains__": "self, x",
            "__iter__": "self", "__add__": "self, other", "__radd__": "self, other", "__sub__": "self, other",
            "__eq__": "self, other", "__repr__": "self",
        }
        self.check("boxes.py", methods, "Box.")

    def check(self, file, wanted, owner=""):
        for name, parameters in wanted.items():
            self.assertEqual(self.parameters(file, owner + name), parameters, name)

    def test_stage_2(self):
        self.check("rows.py", {
            "behind": "box, row", "behind_of": "box, some, row", "ahead": "box, row", "ahead_of": "box, some, row",
            "gives": "box, row", "next_signs": "box, row", "walk": "box, row", "is_walk": "box, row, value",
            "walks": "box, row", "walk_count": "box, row", "row_to": "box, state", "rows": "box", "row_count": "box, size",
        })

    def test_stage_3(self):
        self.check("standing.py", {
            "stands_for": "one, other", "missing_row": "one, other", "is_missing": "one, other, value",
            "missing_count": "one, other, size", "are_alike": "one, other", "parting_row": "one, other",
        })
        self.check("forms.py", {"form": "box", "sets_box": "box", "classes": "boxes"})

    def test_stage_4(self):
        self.check("matchings.py", {
            "__init__": "self, one, other, pairs", "all_pairs": "one, other", "one": "self", "other": "self",
            "pairs": "self", "partners": "self, state", "is_part_of": "self, further", "__len__": "self",
            "__contains__": "self, x", "__eq__": "self, other", "__or__": "self, other", "__rshift__": "self, other",
            "__repr__": "self",
        }, "Matching.")
        for owner in ("Forward.", "Backward.", "Both."):
            self.check("matchings.py", {"__init__": "self, one, other, pairs", "greatest": "cls, one, other"}, owner)
        self.check("matchings.py", {
            "forward_kept": "one, other", "backward_kept": "one, other", "forward_falls": "one, other",
            "backward_falls": "one, other", "are_forward_falls": "one, other, value",
            "are_backward_falls": "one, other, value",
        })

    def test_stage_5(self):
        self.check("fans.py", {
            "__init__": "self, one, other, sets", "one": "self", "other": "self", "girth": "self", "sets": "self",
            "unlike": "self", "is_part_of": "self, further", "__getitem__": "self, at", "__len__": "self",
            "__contains__": "self, x", "__eq__": "self, other", "__or__": "self, other", "__repr__": "self",
        }, "Fan.")
        for owner in ("Remembering.", "Guessing."):
            self.check("fans.py", {
                "__init__": "self, one, other, sets", "built": "cls, one, other", "thin": "cls, one, other",
                "of_singles": "cls, matching", "of_partners": "cls, matching", "least_girth": "cls, one, other",
                "greatest": "cls, one, other, *, girth", "falls": "cls, one, other, *, girth",
                "are_falls": "cls, one, other, value, *, girth",
            }, owner)

    def test_stage_6(self):
        self.check("middles.py", {
            "middle": "fan", "is_middle": "one, other, kind, value", "fan_of": "one, other, kind, value",
        })
        self.check("families.py", {
            "serves": "one, other, kind, value", "family_box": "other, kind, family", "least_size": "one, other, kind",
            "least_families": "one, other, kind",
        })
        self.check("looks.py", {
            "recalling": "box, number", "foreseeing": "box, number", "least_look": "one, other, kind",
        })

    def test_stage_7(self):
        self.check("muffled.py", {
            "__init__": "self, states, starts, steps, hidden=()", "of": "cls, box, calls", "bare": "self",
            "hidden": "self", "moves": "self, state", "refused": "self, state", "endless": "self", "plain": "self",
            "firm": "self, calls", "awake": "self, calls", "wary": "self, calls", "__eq__": "self, other",
            "__repr__": "self",
        }, "Muffled.")
        self.check("muffled.py", {
            "stands": "one, other, reading, calls", "missing": "one, other, reading, calls",
        })
        self.check("together.py", {
            "beside": "one, other", "in_step": "one, other", "either": "one, other", "named": "box, names",
            "all_in_step": "*boxes",
        })

    def test_stage_8(self):
        self.check("parts.py", {"room": "helper, whole, signs"})
        self.check("changes.py", {
            "fewest_left_out": "one, other", "leave_outs": "one, other", "tree": "one, other, depth",
            "is_tree": "one, other, depth, value",
        })
        self.check("listener.py", {
            "__init__": "self, box, row=()", "box": "self", "row": "self", "begin": "self, row", "__len__": "self",
            "now": "self", "at": "self, number", "answers": "self, call", "hear": "self, call, answer",
            "__call__": "self, call, answer", "__iadd__": "self, other", "undo": "self", "trial": "self",
            "tried": "self, action",
        }, "Listener.")

    def test_stage_9(self):
        self.check("texts.py", {"text_of": "value", "read": "text", "packed": "value", "unpacked": "data"})
        self.check("judge.py", {
            "is_claim": "value", "is_true": "claim", "is_paper": "claim, value", "paper_for": "claim",
        })
        self.check("desk.py", {
            "__init__": "self", "names": "self", "__len__": "self", "__contains__": "self, x", "__getitem__": "self, at",
            "__setitem__": "self, at, worth", "do": "self, command", "do_all": "self, *commands", "log": "self",
            "__call__": "self, command",
        }, "Desk.")

    def test_the_row_of_a_listener_can_be_set_and_no_other_property(self):
        setters = [item.name for _, text in files() for item in ast.walk(ast.parse(text))
                   if isinstance(item, ast.FunctionDef) and self.is_setter(item)]
        self.assertEqual(setters, ["row"])
