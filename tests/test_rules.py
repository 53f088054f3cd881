"""The interface's names, and those rules of the language that can be seen from the files."""

import ast
import inspect
import pathlib
import unittest

import trackorder
from trackorder import errors, ground, notes

FOLDER = pathlib.Path(trackorder.__file__).parent
FILES = {path.name: path.read_text(encoding="utf-8") for path in sorted(FOLDER.glob("*.py"))}
METHODS = {
    "__init__": ["walkers", "weathers"], "things": [], "tell": ["fact"], "cross": ["one", "other"], "take": ["number"],
    "settle": ["number", "over"], "before": ["one", "other"], "order": [], "many": [], "pairs": [],
    "open_crossings": [], "look": [], "leans": ["number"], "needless": [], "kept": [], "told": []}
BUILTINS = {"len", "range", "enumerate", "zip", "min", "max", "sum", "abs", "sorted", "reversed", "int", "str", "bool",
            "list", "tuple", "dict", "set", "isinstance", "ord", "repr", "any", "all", "divmod", "ValueError"}
BARRED = (ast.Global, ast.AsyncFunctionDef, ast.Await, ast.Yield, ast.YieldFrom, ast.Div, ast.Lambda, ast.With)


def nodes():
    """All parts of all files, with the file's name."""
    return [(name, node) for name, text in FILES.items() for node in ast.walk(ast.parse(text))]


class Interface(unittest.TestCase):
    def test_methods_are_defined_in_the_class_with_their_arguments(self):
        for name, given in METHODS.items():
            method = vars(ground.Ground)[name]
            self.assertEqual(list(inspect.signature(method).parameters), ["self", *given])

    def test_each_stands_in_its_file(self):
        for module, names in [(errors, ["TrackError", "NoFact", "NoSuch", "Full", "Ring", "BadText"]),
                              (ground, ["Ground"]), (notes, ["written", "read"])]:
            for name in names:
                self.assertEqual(getattr(module, name).__module__, module.__name__)
        self.assertEqual(list(inspect.signature(notes.written).parameters), ["ground"])
        self.assertEqual(list(inspect.signature(notes.read).parameters), ["text"])


class Language(unittest.TestCase):
    def test_the_folder_holds_files_of_the_program_alone(self):
        others = [path.name for path in FOLDER.iterdir() if path.name != "__pycache__" and path.name not in FILES]
        self.assertEqual(others, [])

    def test_sizes_and_signs(self):
        for name, text in FILES.items():
            lines = text.split("\n")
            self.assertLessEqual(len(lines), 400, name)
            self.assertLessEqual(max(map(len, lines)), 120, name)
            self.assertEqual([sign for sign in text if sign != "\n" and not " " <= sign <= "~"], [], name)
            self.assertNotIn("%", text)

    def test_functions_have_at_most_forty_lines(self):
        for name, node in nodes():
            if isinstance(node, ast.FunctionDef):
                self.assertLessEqual(node.end_lineno - node.lineno + 1, 40, f"{name} {node.name}")

    def test_imports_are_of_the_package_alone(self):
        for name, node in nodes():
            self.assertNotIsInstance(node, ast.Import, name)
            if isinstance(node, ast.ImportFrom):
                self.assertEqual((node.level, node.module.split(".")[0]), (0, "trackorder"), name)

    def test_builtins(self):
        known = set(dir(__builtins__) if inspect.ismodule(__builtins__) else __builtins__)
        for name, node in nodes():
            if isinstance(node, ast.Name) and node.id in known:
                self.assertIn(node.id, BUILTINS, name)
                self.assertIsInstance(node.ctx, ast.Load, name)

    def test_parts_of_the_language_that_are_not_used(self):
        for name, node in nodes():
            self.assertNotIsInstance(node, BARRED, name)
            if isinstance(node, ast.Constant):
                self.assertNotIsInstance(node.value, (float, complex), name)


if __name__ == "__main__":
    unittest.main()
