"""The form of the package's files, as far as a short test can see it."""

import ast
import pathlib
import unittest

PACKAGE = pathlib.Path(__file__).resolve().parent.parent / "mirrorturns"
DEFINED = {
    "rooms": ["Room", "path", "send", "unsent"],
    "repeats": ["nth_exit", "after_beams", "find_cycle", "count_passes", "never_passed"],
    "journeys": ["fewest_beams", "count_rooms", "telling_beams"],
    "hidden": ["Observer"],
    "bench": ["Bench"],
    "errors": ["MirrorError", "InvalidRoom", "UnknownPort", "UnknownTile", "InvalidNumber", "OtherRoom",
               "TooMany", "Contradiction", "NotTurning", "InvalidName", "UnknownName", "InvalidOperation"],
}
METHODS = {
    ("rooms", "Room"): [
        "__init__", "parse", "rows", "text", "size", "turning", "__call__", "__len__", "__getitem__",
        "__bool__", "__eq__", "__invert__"],
    ("hidden", "Observer"): ["__init__", "see", "see_all", "signs", "history", "best_port"],
    ("bench", "Bench"): [
        "__init__", "beam", "turn", "turn_all", "undo", "redo", "room_now", "passes", "operations", "save",
        "restore", "batch", "replay"],
}


def files():
    return sorted(path for path in PACKAGE.iterdir() if path.name != "__pycache__")


class Form(unittest.TestCase):

    def test_files(self):
        self.assertIn("__init__.py", [path.name for path in files()])
        for path in files():
            self.assertRegex(path.name, "^[a-z_]+[.]py$")

    def test_lines(self):
        for path in files():
            lines = path.read_bytes().decode("ascii").split("\n")
            self.assertLessEqual(len(lines), 399, path)
            for line in lines:
                self.assertLessEqual(len(line), 120, path)
                self.assertTrue(line.isprintable(), (path, line))

    def test_functions_are_short(self):
        for path in files():
            for node in ast.walk(ast.parse(path.read_text())):
                if isinstance(node, ast.FunctionDef):
                    self.assertLessEqual(node.end_lineno - node.lineno + 1, 40, node.name)

    def test_imports_are_from_the_package(self):
        for path in files():
            for node in ast.walk(ast.parse(path.read_text())):
                self.assertNotIsInstance(node, ast.Import, path)
                if isinstance(node, ast.ImportFrom):
                    self.assertTrue(node.module.startswith("mirrorturns."), (path, node.module))

    def test_interface_is_defined_in_its_files(self):
        for name, expected in DEFINED.items():
            tree = ast.parse((PACKAGE / (name + ".py")).read_text())
            found = [node.name for node in tree.body
                     if isinstance(node, (ast.FunctionDef, ast.ClassDef))]
            for word in expected:
                self.assertIn(word, found)

    def test_methods_are_defined_in_their_classes(self):
        for (name, word), expected in METHODS.items():
            tree = ast.parse((PACKAGE / (name + ".py")).read_text())
            body = next(node.body for node in tree.body
                        if isinstance(node, ast.ClassDef) and node.name == word)
            found = [node.name for node in body if isinstance(node, ast.FunctionDef)]
            for method in expected:
                self.assertIn(method, found)


if __name__ == "__main__":
    unittest.main()
