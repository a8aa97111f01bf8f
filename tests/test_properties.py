"""Point 40: the properties, their values, first values and inheritance."""

import unittest

from quirekiln.properties import first_value, is_allowed, is_inherited, property_names

WORDS = {
    "display": ["block", "row", "grid", "none"],
    "place": ["flow", "shifted", "free"],
    "width": ["auto"],
    "height": ["auto"],
    "align": ["left", "center", "right", "full"],
    "clip": ["open", "cut", "scroll"],
}
BOUNDS = {
    "left": (-1000, 1000),
    "top": (-1000, 1000),
    "width": (0, 1000),
    "height": (0, 1000),
    "least_width": (0, 1000),
    "most_width": (0, 1000),
    "margin_left": (0, 100),
    "margin_right": (0, 100),
    "margin_top": (0, 100),
    "margin_bottom": (0, 100),
    "padding": (0, 100),
    "border": (0, 100),
    "border_color": (1, 255),
    "background": (0, 255),
    "color": (1, 255),
    "size": (1, 20),
    "lead": (0, 20),
    "grow": (0, 100),
    "shrink": (0, 100),
    "gap": (0, 100),
    "columns": (1, 10),
    "level": (-100, 100),
}
FIRST = {
    "align": "left", "background": 0, "border": 0, "border_color": 1, "clip": "open", "color": 1, "columns": 2,
    "display": "block", "gap": 0, "grow": 0, "height": "auto", "lead": 0, "least_width": 0, "left": 0, "level": 0,
    "margin_bottom": 0, "margin_left": 0, "margin_right": 0, "margin_top": 0, "most_width": 1000, "padding": 0,
    "place": "flow", "shrink": 1, "size": 2, "top": 0, "width": "auto",
}


class Properties(unittest.TestCase):
    def test_point_40_the_26_names_in_ascending_order(self):
        self.assertEqual(property_names(), sorted(FIRST))
        self.assertEqual(len(property_names()), 26)

    def test_point_3_the_list_of_names_is_a_new_one(self):
        property_names().clear()
        self.assertEqual(property_names(), sorted(FIRST))

    def test_point_40_first_values(self):
        for name in FIRST:
            found = first_value(name)
            self.assertEqual((found, found.__class__), (FIRST[name], FIRST[name].__class__), name)
            self.assertIs(is_allowed(name, found), True, name)

    def test_point_40_inheritance(self):
        for name in FIRST:
            self.assertIs(is_inherited(name), name in ("color", "size", "lead", "align"), name)

    def test_point_40_bounds_and_the_numbers_next_to_them(self):
        for name in FIRST:
            low, high = BOUNDS.get(name, (1, 0))
            for value in [low, high, (low + high) // 2, low + 1, high - 1]:
                self.assertIs(is_allowed(name, value), name in BOUNDS and low <= value <= high, (name, value))
            for value in [low - 1, high + 1, -10 ** 20, 10 ** 20]:
                self.assertIs(is_allowed(name, value), False, (name, value))

    def test_point_40_each_word_at_each_property(self):
        every = {word for words in WORDS.values() for word in words}
        for name in FIRST:
            for word in sorted(every) + ["", "Left", "auto ", "blockrow", "part", "0", "1", "open\n"]:
                self.assertIs(is_allowed(name, word), word in WORDS.get(name, []), (name, word))

    def test_point_40_values_of_other_kinds(self):
        for name in FIRST:
            for value in [True, False, None, (), ("auto",), (1,), ("left",), (0, 1), ("part",), 1.0, [1], {}]:
                self.assertIs(is_allowed(name, value), False, (name, value))

    def test_point_40_parts_are_for_the_width_alone(self):
        for name in FIRST:
            for value in [("part", 0), ("part", 1), ("part", 50), ("part", 99), ("part", 100)]:
                self.assertIs(is_allowed(name, value), name == "width", (name, value))

    def test_point_40_wrong_parts(self):
        for value in [("part", -1), ("part", 101), ("part", True), ("part", False), ("part", None), ("part", "5"),
                      ("part", ("part", 5)), ("part",), ("part", 5, 5), ("Part", 5), (5, "part"), ("", 5), (5, 5),
                      (None, 5), ("auto", 5), ("part", 1.0), ["part", 5]]:
            for name in FIRST:
                self.assertIs(is_allowed(name, value), False, (name, value))


if __name__ == "__main__":
    unittest.main()
