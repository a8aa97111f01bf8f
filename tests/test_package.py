"""The interface of the modules: names, arguments, and where they are defined."""

import importlib
import inspect
import unittest

from quirekiln.engine import Engine
from quirekiln.page import Page
from quirekiln.setting import Setting

FUNCTIONS = {
    "plates": {
        "is_empty": ["rect"],
        "has_cell": ["rect", "px", "py"],
        "intersect": ["first", "second"],
        "bounding": ["rects"],
        "shift": ["rect", "dx", "dy"],
    },
    "regions": {
        "region": ["rects"],
        "bands": ["rects"],
        "join": ["first", "second"],
        "minus": ["first", "second"],
        "cut": ["rects", "rect"],
        "area": ["rects"],
        "has": ["rects", "px", "py"],
    },
    "selectors": {
        "parse_selector": ["text"],
        "write_selector": ["steps"],
        "matches": ["page", "node", "steps"],
        "weight": ["steps"],
    },
    "properties": {
        "property_names": [],
        "first_value": ["name"],
        "is_inherited": ["name"],
        "is_allowed": ["name", "value"],
    },
    "styles": {
        "computed": ["page"],
        "shown": ["page", "styles"],
    },
    "letters": {
        "advance": ["char", "size"],
        "text_width": ["string", "size"],
        "offsets": ["string", "size"],
    },
    "lines": {
        "paragraphs": ["string"],
        "words": ["string", "start", "end"],
        "break_lines": ["string", "size", "width"],
        "ends_paragraph": ["string", "line"],
        "place_line": ["string", "line", "*size", "*width", "*align='left'"],
    },
    "measures": {
        "frame": ["style"],
        "bounded": ["style", "width"],
        "flow_children": ["page", "styles", "node"],
        "narrow": ["page", "styles", "node"],
        "wide": ["page", "styles", "node"],
        "column_measures": ["page", "styles", "node"],
    },
    "rows": {
        "grow_widths": ["free", "bases", "weights", "limits"],
        "shrink_widths": ["missing", "bases", "weights", "limits"],
    },
    "grids": {
        "column_widths": ["narrows", "wides", "room"],
    },
    "layout": {
        "lay": ["page", "styles", "node", "width", "height"],
        "needed": ["page", "styles"],
        "rectangles": ["page", "styles"],
        "scrolled": ["page", "styles", "node"],
    },
    "painting": {
        "painted_items": ["page", "styles", "rectangles"],
        "changed_items": ["old", "new"],
    },
    "pixels": {
        "color_at": ["painted", "x", "y"],
        "paint": ["painted", "rectangle"],
    },
    "pointing": {
        "hit_at": ["painted", "x", "y"],
        "hits_at": ["painted", "x", "y"],
    },
}
CLASSES = {
    "errors": {
        "PageError", "NoNode", "WrongKind", "BadWord", "BadValue", "BadPlace", "TooDeep", "TooMany",
        "BadSelector",
    },
    "page": {"Page"},
    "setting": {"Setting"},
    "engine": {"Engine", "Report"},
}
METHODS = {
    ("page", "Page"): {
        "__init__": ["width", "height"],
        "kind": ["node"], "parent": ["node"], "children": ["node"], "name": ["node"], "text": ["node"],
        "marks": ["node"], "own": ["node"], "scroll": ["node"], "depth": ["node"], "nodes": [], "rules": [],
        "insert_box": ["parent", "index", "name", "*marks=()"],
        "insert_text": ["parent", "index", "string"],
        "remove": ["node"],
        "move": ["node", "parent", "index"],
        "set_text": ["node", "string"],
        "set_marks": ["node", "marks"],
        "set_own": ["node", "name", "value"],
        "clear_own": ["node", "name"],
        "set_rules": ["rules"],
        "scroll_to": ["node", "x", "y"],
        "resize": ["width", "height"],
        "undo": [], "redo": [], "snapshot": [], "duplicate": [],
    },
    ("setting", "Setting"): {
        "__init__": ["string", "*size=2", "*lead=0", "*width", "*align='left'"],
        "__iter__": [],
        "places": ["number"],
        "ink": [],
        "ink_between": ["low", "high"],
        "line_of": ["index"],
        "caret": ["index"],
        "index_near": ["x", "y"],
    },
    ("engine", "Engine"): {
        "__init__": ["page"],
        "refresh": [], "rectangles": [], "painted": [], "pixel": ["x", "y"], "shot": ["rectangle"],
        "hit": ["x", "y"], "hits": ["x", "y"], "caret": ["node", "index"], "index_at": ["node", "x", "y"],
        "selection": ["first", "last"], "selected_text": ["first", "last"],
    },
}


def arguments_of(function):
    """The names of the parameters, with a star if they are passed by keyword, and the defaults."""
    found = []
    for parameter in inspect.signature(function).parameters.values():
        text = "*" if parameter.kind == parameter.KEYWORD_ONLY else ""
        text += parameter.name
        if parameter.default != parameter.empty:
            text += f"={parameter.default!r}"
        found.append(text)
    return found


class Interface(unittest.TestCase):
    def test_functions_and_their_arguments(self):
        for module, functions in FUNCTIONS.items():
            held = importlib.import_module("quirekiln." + module)
            for name, arguments in functions.items():
                function = getattr(held, name)
                self.assertEqual(arguments_of(function), arguments, name)
                self.assertEqual(function.__module__, held.__name__, name)

    def test_classes(self):
        for module, classes in CLASSES.items():
            held = importlib.import_module("quirekiln." + module)
            for name in classes:
                made = getattr(held, name)
                self.assertIs(inspect.isclass(made), True, name)
                self.assertEqual(made.__module__, held.__name__, name)

    def test_methods_stand_in_the_class_itself(self):
        for (module, name), methods in METHODS.items():
            made = vars(importlib.import_module("quirekiln." + module))[name]
            for method, arguments in methods.items():
                self.assertEqual(arguments_of(vars(made)[method]), ["self"] + arguments, method)
        self.assertIs(isinstance(vars(Setting)["total_height"], property), True)

    def test_attributes_are_set_when_the_object_is_created(self):
        self.assertLessEqual({"width", "height"}, set(vars(Page(1, 1))))
        names = {"string", "size", "lead", "width", "align", "lines"}
        self.assertLessEqual(names, set(vars(Setting("", width=1))))
        self.assertLessEqual({"laid", "styled", "damage"}, set(vars(Engine(Page(1, 1)).refresh())))


if __name__ == "__main__":
    unittest.main()
