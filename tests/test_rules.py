"""Point 43: rules and the errors of set_rules."""

import unittest

from quirekiln.errors import BadSelector, BadValue, BadWord
from pages import assert_refused, page_of


class Rules(unittest.TestCase):
    def setUp(self):
        self.page = page_of(("a", ["x"]))
        self.page.set_rules([("a", {"gap": 7})])
        self.page.set_rules([])
        self.page.undo()

    def refused(self, error, value, rules):
        assert_refused(self, self.page, error, value, lambda: self.page.set_rules(rules))

    def test_point_43_30_and_31_rules(self):
        self.refused(BadValue, "rules", [("a", {})] * 31)
        self.refused(BadValue, "rules", [("", {})] * 31)
        self.refused(BadValue, "rules", [("a", {"oops": 0})] * 31)
        self.page.set_rules([("a", {})] * 30)
        self.assertEqual(len(self.page.rules()), 30)

    def test_point_43_selectors(self):
        for text in ["", " a", "a  b", "a>b", "a b c d e", "a.b.b", "*.a", "A", "a%", "abcdefghijklm", None, True, 5,
                     ("a",)]:
            self.refused(BadSelector, text, [(text, {})])
            self.refused(BadSelector, text, [("a", {"gap": 1}), (text, {"oops": 1}), ("", {})])
            self.refused(BadSelector, text, [(text, {"gap": -1})])

    def test_point_43_properties(self):
        for name in ["oops", "", "Gap", "gap ", "margin", None, 5, ("gap",)]:
            self.refused(BadWord, name, [("a", {name: 1})])
            self.refused(BadWord, name, [("*", {"gap": 1}), ("a", {name: None})])

    def test_point_43_values(self):
        wrong = {
            "gap": [-1, 101, True, False, None, "1", "auto", ("part", 1)], "width": [("part", 101), "none", -1],
            "display": ["row ", 0, None], "level": [-101, 101], "color": [0, 256],
        }
        for name, values in wrong.items():
            for value in values:
                self.refused(BadValue, name, [("a", {name: value})])
                self.refused(BadValue, name, [("*", {"gap": 1}), ("a", {"align": "full", name: value})])

    def test_point_43_properties_are_checked_in_ascending_order(self):
        self.refused(BadValue, "gap", [("a", {"width": -1, "gap": -1, "oops": 1})])
        self.refused(BadWord, "oops", [("a", {"width": -1, "gap": 1, "oops": 1})])
        self.refused(BadValue, "width", [("a", {"zzz": 1, "width": -1, "gap": 1})])
        self.refused(BadWord, "aaa", [("a", {"gap": -1, "aaa": 1})])
        self.refused(BadWord, "Zzz", [("a", {"aaa": 1, "Zzz": 1})])
        self.refused(BadValue, "most_width", [("a", {"top": None, "padding": None, "most_width": None})])

    def test_point_43_rules_are_checked_one_after_the_other(self):
        self.refused(BadWord, "oops", [("a", {"oops": 1}), ("", {})])
        self.refused(BadSelector, "", [("", {"oops": 1}), ("", {})])
        self.refused(BadValue, "gap", [("a", {}), ("b", {"gap": -1}), (".", {})])
        self.refused(BadSelector, ".", [("a", {}), (".", {}), ("b", {"gap": -1})])

    def test_point_25_rules_of_another_form(self):
        for rules in [None, 5, "a", {"a": {}}, [5], [("a",)], [("a", {}, {})], [("a", None)], [("a", ["gap", 1])]]:
            self.refused(BadValue, "rules", rules)

    def test_point_43_later_rules_replace_all_earlier_ones(self):
        self.page.set_rules([("b", {}), ("c", {"gap": 1})])
        self.page.set_rules([("d", {})])
        self.assertEqual(self.page.rules(), [("d", {})])

    def test_point_43_every_bound_is_accepted(self):
        given = {"gap": 100, "level": -100, "width": ("part", 100), "size": 20, "left": -1000, "display": "none"}
        self.page.set_rules([("a", given)])
        self.assertEqual(self.page.rules(), [("a", given)])
        self.assertEqual(self.page.snapshot()[2], (("a", tuple(sorted(given.items()))),))


if __name__ == "__main__":
    unittest.main()
