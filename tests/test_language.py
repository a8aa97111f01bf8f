"""The rules of the language that a test can measure, some of them more narrowly than they say."""

import ast
import builtins
import pathlib
import re
import unittest

FOLDER = pathlib.Path(__file__).resolve().parent.parent / "quirekiln"
PATHS = sorted(FOLDER.rglob("*.py"))
TREES = {path.stem: ast.parse(path.read_text()) for path in PATHS}

BUILTINS = set(
    "len range enumerate zip min max sum abs sorted reversed int str bool list tuple dict set isinstance ord repr any"
    " all divmod iter next property Exception ValueError TypeError KeyError IndexError".split()
)
# The methods of builtin values that the rules allow.
METHODS = set(
    "append clear copy count endswith extend find get index insert isalnum isalpha isdigit islower isspace isupper"
    " items join keys ljust lower lstrip partition pop remove replace reverse rfind rjust rpartition rsplit rstrip"
    " setdefault split splitlines startswith strip update upper values zfill add discard __init__".split()
)
BARRED = {"type", "register", "mro", "elements", "open", "input", "law", "eval", "exec", "vars", "dir", "globals"}
# What no name may begin with, and what no name may be, also with digits behind it.
BARRED_BEGINNINGS = (
    "_wall", "_pe_", "_dcw_", "_enum_", "_cm_", "_twin_re_", "_lay_", "_law_", "_stub_", "_sre", "_WallAttr",
)
BARRED_WHOLE = re.compile("_(cold|tuplegetter|outside|record|written_out|member_names)[0-9_]*")
STATEMENTS = (
    ast.FunctionDef, ast.ClassDef, ast.Return, ast.Delete, ast.Assign, ast.AugAssign, ast.For, ast.While, ast.If,
    ast.Raise, ast.Try, ast.ImportFrom, ast.Expr, ast.Pass, ast.Break, ast.Continue,
)


def parts(kind):
    """All parts of this kind in all files, each with the name of its file."""
    for name, tree in TREES.items():
        for part in ast.walk(tree):
            if isinstance(part, kind):
                yield name, part


def bound_names(tree):
    """The names that a file binds as variables, parameters, functions and classes."""
    for part in ast.walk(tree):
        if isinstance(part, ast.Name) and isinstance(part.ctx, ast.Store):
            yield part.id
        elif isinstance(part, ast.arg):
            yield part.arg


def all_names(tree):
    """All names that a file gives to anything."""
    yield from bound_names(tree)
    for part in ast.walk(tree):
        if isinstance(part, (ast.FunctionDef, ast.ClassDef)):
            yield part.name
        elif isinstance(part, ast.Attribute) and isinstance(part.ctx, ast.Store):
            yield part.attr


def imports_of(tree):
    """The imported names with their modules."""
    found = [part for part in ast.walk(tree) if isinstance(part, ast.ImportFrom)]
    return {alias.name: part.module for part in found for alias in part.names}


class Files(unittest.TestCase):
    def test_rules_1_and_14_the_folder_contains_python_files_only(self):
        found = [path for path in FOLDER.rglob("*") if "__pycache__" not in path.parts]
        self.assertEqual([path.name for path in found if path.suffix != ".py"], [])
        self.assertIn("__init__.py", [path.name for path in found])

    def test_rules_10_and_14_sizes_and_characters(self):
        for path in PATHS:
            data = path.read_bytes()
            bad = [byte for byte in data if byte != 10 and not 32 <= byte <= 126]
            self.assertEqual(bad, [], path.name)
            lines = data.decode("ascii").split("\n")
            self.assertLessEqual(len(lines) - 1, 399, path.name)
            self.assertLessEqual(max(len(line) for line in lines), 120, path.name)

    def test_rule_10_functions_are_short(self):
        for name, part in parts(ast.FunctionDef):
            self.assertLessEqual(part.end_lineno - part.lineno + 1, 40, (name, part.name))


class Imports(unittest.TestCase):
    def test_rules_2_and_16_imports_name_the_file_that_defines_the_name(self):
        self.assertEqual([name for name, part in parts(ast.Import)], [])
        for file, tree in TREES.items():
            for name, module in imports_of(tree).items():
                package, _, other = module.partition(".")
                self.assertEqual(package, "quirekiln", file)
                defined = [
                    part.name if isinstance(part, (ast.FunctionDef, ast.ClassDef)) else part.targets[0].id
                    for part in TREES[other].body
                    if isinstance(part, (ast.FunctionDef, ast.ClassDef, ast.Assign))
                ]
                self.assertIn(name, defined, file)

    def test_rule_16_no_circles(self):
        known = {"__init__"}
        waiting = {file: {module.partition(".")[2] for module in imports_of(tree).values()}
                   for file, tree in TREES.items()}
        while True:
            ready = [file for file in waiting if waiting[file] <= known]
            if not ready:
                break
            known.update(ready)
            for file in ready:
                del waiting[file]
        self.assertEqual(waiting, {})

    def test_rule_15_no_name_has_two_meanings(self):
        for file, tree in TREES.items():
            for name in bound_names(tree):
                self.assertNotIn(name, imports_of(tree), file)
                self.assertIs(name in vars(builtins), False, (file, name))
                self.assertNotIn(name, BARRED, file)
        for file, part in parts((ast.FunctionDef, ast.ClassDef)):
            self.assertIs(part.name in vars(builtins), False, (file, part.name))
            self.assertNotIn(part.name, BARRED, file)


class Names(unittest.TestCase):
    def test_rule_12_plain_names(self):
        for file, tree in TREES.items():
            for name in all_names(tree):
                if name.startswith("__"):
                    self.assertIn(name, {"__init__", "__iter__"}, file)
                    continue
                self.assertIsNotNone(re.fullmatch("_|_?[a-zA-Z][a-zA-Z0-9_]*", name), (file, name))
                self.assertIs(name.startswith(BARRED_BEGINNINGS), False, (file, name))
                self.assertIsNone(BARRED_WHOLE.fullmatch(name), (file, name))

    def test_rule_12_an_underscore_alone_is_never_read(self):
        read = [place for place in parts(ast.Name) if place[1].id == "_" and isinstance(place[1].ctx, ast.Load)]
        self.assertEqual(read, [])

    def test_rule_26_no_attribute_has_the_name_of_a_builtin_method(self):
        barred = {name for kind in (str, int, list, dict, set, bytes) for name in dir(kind)}
        for file, part in parts(ast.Attribute):
            if isinstance(part.ctx, ast.Store):
                self.assertNotIn(part.attr, barred, file)


class Code(unittest.TestCase):
    def test_rule_6_statements(self):
        for file, part in parts(ast.stmt):
            self.assertIsInstance(part, STATEMENTS, (file, part.lineno))

    def test_rule_8_builtins(self):
        for file, part in parts(ast.Name):
            if part.id in vars(builtins):
                self.assertIn(part.id, BUILTINS, (file, part.lineno))

    def test_rule_25_methods(self):
        own = {part.name for file, part in parts(ast.FunctionDef)}
        for file, part in parts(ast.Call):
            if isinstance(part.func, ast.Attribute):
                self.assertIn(part.func.attr, METHODS | own, (file, part.lineno))

    def test_rules_7_and_27_values(self):
        for file, part in parts(ast.Constant):
            self.assertIsInstance(part.value, (int, str, bool, type(None)), (file, part.lineno))
            if isinstance(part.value, str):
                self.assertNotIn("%", part.value, (file, part.lineno))
        self.assertEqual([place for place in parts((ast.Div, ast.AnnAssign))], [])

    def test_rule_18_no_name_is_a_method_and_an_attribute(self):
        methods = {part.name for file, part in parts(ast.FunctionDef)}
        stored = {part.attr for file, part in parts(ast.Attribute) if isinstance(part.ctx, ast.Store)}
        self.assertEqual(methods & stored, set())

    def test_rule_20_is(self):
        for file, part in parts(ast.Compare):
            for sign, right in zip(part.ops, part.comparators):
                if isinstance(sign, (ast.Is, ast.IsNot)):
                    self.assertIn(ast.unparse(right), ("None", "True", "False"), (file, part.lineno))

    def test_rule_22_keywords_of_builtins(self):
        allowed = {"key", "reverse", "default", "start", "strict"}
        for file, part in parts(ast.Call):
            if isinstance(part.func, ast.Name) and part.func.id in vars(builtins):
                self.assertLessEqual({keyword.arg for keyword in part.keywords}, allowed, (file, part.lineno))

    def test_rule_13_no_two_lambdas_on_one_line(self):
        places = [(file, part.lineno) for file, part in parts(ast.Lambda)]
        self.assertEqual(len(set(places)), len(places))

    def test_rule_5_decorators(self):
        for file, part in parts((ast.FunctionDef, ast.ClassDef)):
            self.assertIn([ast.unparse(one) for one in part.decorator_list], ([], ["property"]), (file, part.name))

    def test_rule_24_sets_are_measured_and_sorted_on_the_spot(self):
        inner = {
            id(argument)
            for file, call in parts(ast.Call)
            if isinstance(call.func, ast.Name) and call.func.id in ("sorted", "len")
            for argument in call.args
        }
        for file, part in parts((ast.Call, ast.Set, ast.SetComp)):
            if not isinstance(part, ast.Call) or (isinstance(part.func, ast.Name) and part.func.id == "set"):
                self.assertIn(id(part), inner, (file, part.lineno))


if __name__ == "__main__":
    unittest.main()
