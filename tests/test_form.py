"""That the package has the interface of the document, and the size and signs it may have."""

import ast
import pathlib
import unittest

PACKAGE = pathlib.Path(__file__).resolve().parent.parent / "beatswitch"

# Of each file the functions, and of each class what it is made of, with their arguments.
INTERFACE = {
    "errors": {
        "NotFull": ["at"], "NoLine": ["at"], "NoCall": ["number"], "NoPiece": ["number"],
        "NotSteady": ["at"], "NoBeat": ["number"], "NoText": ["text"], "TooMany": ["text"],
        "NoRow": ["text"],
    },
    "tables": {"is_table": ["thing"], "line_sum": ["table", "line"], "greatest_line": ["table"]},
    "texts": {"shown": ["table"], "read": ["text"]},
    "pairings": {
        "is_pairing": ["n", "thing"], "is_within": ["table", "thing"],
        "is_full": ["table", "thing"], "cells_of": ["pairing"],
    },
    "covers": {"greatest": ["table"], "is_greatest": ["table", "told"]},
    "parting": {"parted": ["table"], "is_parted": ["table", "thing"]},
    "waves": {"wave": ["table", "beat"]},
    "clearing": {
        "behind": ["table", "pairings"], "cleared": ["table", "beat"],
        "latest": ["table", "row", "column"],
    },
    "keeping": {"Keeper": ["n"]},
    "frames": {"Frame": ["table"]},
    "middles": {
        "laid": ["size", "middles", "calls"], "is_laid": ["size", "middles", "calls", "thing"],
    },
    "halls": {"Hall": ["size", "lines", "middles"]},
    "desk": {"Desk": []},
    "ideal": {"Ideal": ["n"]},
    "steady": {
        "is_steady": ["rows", "thing"], "not_outdone": ["rows", "chosen"], "best_rows": ["rows"],
        "best_columns": ["rows"], "upper": ["rows", "one", "other"], "lower": ["rows", "one", "other"],
    },
    "copying": {"Copy": ["n"]},
    "logs": {"is_log": ["n", "thing"], "sent": ["n", "log"]},
    "plans": {
        "plan": ["n", "history"], "is_plan": ["n", "history", "told"], "needs_two": ["n", "history"],
    },
    "measured": {"measured": ["n", "history", "beats"]},
    "heaviest": {"heaviest": ["table"], "is_heaviest": ["table", "told"]},
}

# Of each class the methods that stand in its own body, with their arguments.
METHODS = {
    ("keeping", "Keeper"): {
        "come": ["row", "column"], "beat": [], "beats": [], "table": [],
        "waiting": ["row", "column"],
    },
    ("frames", "Frame"): {
        "pairing": [], "come": ["row", "column"], "beat": [], "beats": [],
        "waiting": ["row", "column"],
    },
    ("halls", "Hall"): {"call": ["front", "behind"], "end": ["number"], "calls": []},
    ("desk", "Desk"): {"say": ["row"]},
    ("ideal", "Ideal"): {
        "come": ["row", "column", "rank"], "beat": [], "beats": [], "waiting": ["column"],
        "due": ["number"],
    },
    ("copying", "Copy"): {
        "come": ["row", "column", "rank"], "beat": [], "beat_with": ["first", "second"], "beats": [],
        "passed": [], "standing": ["row"], "waiting": ["column"], "slack": ["number"], "log": [],
        "back": ["beats"],
    },
}


def files():
    return sorted(PACKAGE.glob("*.py"))


def arguments(node):
    """The arguments of a function, or of what makes an object of a class."""
    if isinstance(node, ast.FunctionDef):
        return [a.arg for a in node.args.args]
    made = [part for part in node.body if getattr(part, "name", None) == "__init__"]
    return arguments(made[0])[1:] if made else []


def parts(path):
    tree = ast.parse(path.read_text(encoding="utf-8"))
    kinds = (ast.FunctionDef, ast.ClassDef)
    return {node.name: node for node in tree.body if isinstance(node, kinds)}


def defined(path):
    return {name: arguments(node) for name, node in parts(path).items()}


def made_in(path):
    """The names that a file itself gives to functions, classes and values."""
    tree = ast.parse(path.read_text(encoding="utf-8"))
    values = [part for part in tree.body if isinstance(part, ast.Assign)]
    return set(parts(path)) | {target.id for part in values for target in part.targets}


def methods(path, name):
    body = parts(path)[name].body
    return {node.name: arguments(node)[1:] for node in body if isinstance(node, ast.FunctionDef)}


def assigned(node):
    """The attributes that a method assigns to its own object."""
    found = [part for part in ast.walk(node) if isinstance(part, ast.Attribute)]
    return {part.attr for part in found if isinstance(part.ctx, ast.Store) and part.value.id == "self"}


class Interface(unittest.TestCase):
    def test_names_and_arguments(self):
        for name, told in INTERFACE.items():
            found = defined(PACKAGE / f"{name}.py")
            for word, expected in told.items():
                self.assertEqual(found.get(word), expected, f"{name}.{word}")

    def test_methods_in_the_class_itself(self):
        for (name, word), told in METHODS.items():
            found = methods(PACKAGE / f"{name}.py", word)
            for method, expected in told.items():
                self.assertEqual(found.get(method), expected, f"{name}.{word}.{method}")

    def test_attributes_set_when_the_object_is_created(self):
        for name, word in METHODS:
            body = parts(PACKAGE / f"{name}.py")[word].body
            made = {part.name: assigned(part) for part in body if isinstance(part, ast.FunctionDef)}
            for method, found in made.items():
                self.assertLessEqual(found, made["__init__"], f"{name}.{word}.{method}")


class Form(unittest.TestCase):
    def test_nothing_else_in_the_folder(self):
        names = {path.name for path in PACKAGE.iterdir()} - {"__pycache__"}
        self.assertEqual(names, {path.name for path in files()})
        self.assertIn("__init__.py", names)

    def test_signs_and_sizes(self):
        for path in files():
            text = path.read_bytes().decode("utf-8")
            strange = [sign for sign in text if sign != "\n" and not " " <= sign <= "~"]
            self.assertEqual(strange, [], path.name)
            lines = text.splitlines()
            self.assertLessEqual(len(lines), 399, path.name)
            self.assertLessEqual(max([len(line) for line in lines]), 120, path.name)

    def test_small_functions(self):
        for path in files():
            for node in ast.walk(ast.parse(path.read_text(encoding="utf-8"))):
                if isinstance(node, ast.FunctionDef):
                    self.assertLessEqual(node.end_lineno - node.lineno + 1, 40, node.name)

    def test_imports_from_the_package_alone(self):
        for path in files():
            for node in ast.walk(ast.parse(path.read_text(encoding="utf-8"))):
                self.assertNotIsInstance(node, ast.Import, path.name)
                if isinstance(node, ast.ImportFrom):
                    self.assertEqual(node.module.split(".")[0], "beatswitch", path.name)
                    self.assertEqual([name.asname for name in node.names if name.asname], [])

    def test_each_name_is_imported_from_the_file_that_defines_it(self):
        for path in files():
            for node in ast.walk(ast.parse(path.read_text(encoding="utf-8"))):
                if isinstance(node, ast.ImportFrom):
                    made = made_in(PACKAGE / (node.module.split(".")[1] + ".py"))
                    self.assertLessEqual({name.name for name in node.names}, made, path.name)

    def test_no_local_name_is_that_of_an_import_or_class(self):
        for path in files():
            tree = ast.parse(path.read_text(encoding="utf-8"))
            taken = {name.name for node in tree.body if isinstance(node, ast.ImportFrom) for name in node.names}
            taken |= {node.name for node in tree.body if isinstance(node, ast.ClassDef)}
            for node in ast.walk(tree):
                if isinstance(node, ast.Name) and isinstance(node.ctx, ast.Store):
                    self.assertNotIn(node.id, taken, path.name)
                if isinstance(node, ast.arg):
                    self.assertNotIn(node.arg, taken, path.name)


if __name__ == "__main__":
    unittest.main()
