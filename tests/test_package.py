"""The interface of the modules, and the rules of the language that a test can measure."""

import ast
import importlib
import inspect
import pathlib
import unittest

FOLDER = pathlib.Path(__file__).resolve().parent.parent / "quirekiln"

FUNCTIONS = {
    "plates": {
        "is_empty": ["rect"],
        "has_cell": ["rect", "px", "py"],
        "intersect": ["first", "second"],
        "bounding": ["rects"],
        "shift": ["rect", "dx", "dy"],
    },
    "regions": {
        "region": ["rects"],
        "bands": ["rects"],
        "join": ["first", "second"],
        "minus": ["first", "second"],
        "cut": ["rects", "rect"],
        "area": ["rects"],
        "has": ["rects", "px", "py"],
    },
}
CLASSES = {
    "errors": {
        "PageError", "NoNode", "WrongKind", "BadWord", "BadValue", "BadPlace", "TooDeep", "TooMany",
        "BadSelector",
    },
}


class Interface(unittest.TestCase):
    def test_functions_and_their_arguments(self):
        for module, functions in FUNCTIONS.items():
            held = importlib.import_module("quirekiln." + module)
            for name, arguments in functions.items():
                function = getattr(held, name)
                self.assertEqual(list(inspect.signature(function).parameters), arguments, name)
                self.assertEqual(function.__module__, held.__name__, name)

    def test_classes(self):
        for module, classes in CLASSES.items():
            held = importlib.import_module("quirekiln." + module)
            for name in classes:
                made = getattr(held, name)
                self.assertIs(inspect.isclass(made), True, name)
                self.assertEqual(made.__module__, held.__name__, name)


class Language(unittest.TestCase):
    def test_rules_1_and_14_the_folder_contains_python_files_only(self):
        found = [path for path in FOLDER.rglob("*") if "__pycache__" not in path.parts]
        self.assertEqual([path.name for path in found if path.suffix != ".py"], [])
        self.assertIn("__init__.py", [path.name for path in found])

    def test_rules_10_and_14_sizes_and_characters(self):
        for path in FOLDER.rglob("*.py"):
            data = path.read_bytes()
            bad = [byte for byte in data if byte != 10 and not 32 <= byte <= 126]
            self.assertEqual(bad, [], path.name)
            lines = data.decode("ascii").split("\n")
            self.assertLessEqual(len(lines) - 1, 399, path.name)
            self.assertLessEqual(max(len(line) for line in lines), 120, path.name)

    def test_rule_10_functions_are_short(self):
        for path in FOLDER.rglob("*.py"):
            for part in ast.walk(ast.parse(path.read_text())):
                if isinstance(part, ast.FunctionDef):
                    self.assertLessEqual(part.end_lineno - part.lineno + 1, 40, part.name)


if __name__ == "__main__":
    unittest.main()
