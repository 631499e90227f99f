"""That the package has the interface of the document, and the size and signs it may have."""

import ast
import pathlib
import unittest

PACKAGE = pathlib.Path(__file__).resolve().parent.parent / "beatswitch"

# Of each file the functions, and of each class what it is made of, with their arguments.
INTERFACE = {
    "errors": {
        "NotFull": ["at"], "NoLine": ["at"], "NoCall": ["number"], "NoPiece": ["number"],
        "NotSteady": ["at"], "NoBeat": ["number"], "NoText": ["text"], "TooMany": ["text"],
        "NoRow": ["text"],
    },
    "tables": {"is_table": ["thing"], "line_sum": ["table", "line"], "greatest_line": ["table"]},
    "texts": {"shown": ["table"], "read": ["text"]},
    "pairings": {
        "is_pairing": ["n", "thing"], "is_within": ["table", "thing"],
        "is_full": ["table", "thing"], "cells_of": ["pairing"],
    },
    "covers": {"greatest": ["table"], "is_greatest": ["table", "told"]},
    "parting": {"parted": ["table"], "is_parted": ["table", "thing"]},
    "waves": {"wave": ["table", "beat"]},
    "clearing": {
        "behind": ["table", "pairings"], "cleared": ["table", "beat"],
        "latest": ["table", "row", "column"],
    },
}


def files():
    return sorted(PACKAGE.glob("*.py"))


def arguments(node):
    """The arguments of a function, or of what makes an object of a class."""
    if isinstance(node, ast.FunctionDef):
        return [a.arg for a in node.args.args]
    made = [part for part in node.body if getattr(part, "name", None) == "__init__"]
    return arguments(made[0])[1:] if made else []


def defined(path):
    tree = ast.parse(path.read_text(encoding="utf-8"))
    kinds = (ast.FunctionDef, ast.ClassDef)
    return {node.name: arguments(node) for node in tree.body if isinstance(node, kinds)}


class Interface(unittest.TestCase):
    def test_names_and_arguments(self):
        for name, told in INTERFACE.items():
            found = defined(PACKAGE / f"{name}.py")
            for word, expected in told.items():
                self.assertEqual(found.get(word), expected, f"{name}.{word}")


class Form(unittest.TestCase):
    def test_nothing_else_in_the_folder(self):
        names = {path.name for path in PACKAGE.iterdir()} - {"__pycache__"}
        self.assertEqual(names, {path.name for path in files()})
        self.assertIn("__init__.py", names)

    def test_signs_and_sizes(self):
        for path in files():
            text = path.read_bytes().decode("utf-8")
            strange = [sign for sign in text if sign != "\n" and not " " <= sign <= "~"]
            self.assertEqual(strange, [], path.name)
            lines = text.splitlines()
            self.assertLessEqual(len(lines), 399, path.name)
            self.assertLessEqual(max([len(line) for line in lines]), 120, path.name)

    def test_small_functions(self):
        for path in files():
            for node in ast.walk(ast.parse(path.read_text(encoding="utf-8"))):
                if isinstance(node, ast.FunctionDef):
                    self.assertLessEqual(node.end_lineno - node.lineno + 1, 40, node.name)

    def test_imports_from_the_package_alone(self):
        for path in files():
            for node in ast.walk(ast.parse(path.read_text(encoding="utf-8"))):
                self.assertNotIsInstance(node, ast.Import, path.name)
                if isinstance(node, ast.ImportFrom):
                    self.assertEqual(node.module.split(".")[0], "beatswitch", path.name)


if __name__ == "__main__":
    unittest.main()
