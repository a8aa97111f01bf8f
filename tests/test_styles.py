"""Points 46 to 48: computed styles and shown nodes."""

import random
import unittest

from quirekiln.page import Page
from quirekiln.properties import first_value, is_inherited, property_names
from quirekiln.selectors import matches, parse_selector, weight
from quirekiln.styles import computed, shown
from pages import VALUES, edit_at_random, page_of, some_pages

INHERITED = ["align", "color", "lead", "size"]


def model_value(page, node, name):
    """The value of one property of one box, as point 46 says it."""
    if node == 1 and name in ("display", "place"):
        return {"display": "block", "place": "flow"}[name]
    if name in page.own(node):
        return page.own(node)[name]
    best = None
    for selector, given in page.rules():
        steps = parse_selector(selector)
        if name in given and matches(page, node, steps) and (best is None or weight(steps) >= best[0]):
            best = (weight(steps), given[name])
    if best is not None:
        return best[1]
    if is_inherited(name) and node != 1:
        return model_value(page, page.parent(node), name)
    return first_value(name)


def model(page):
    """The computed styles, each value by itself."""
    styles = {}
    for node in page.nodes():
        if page.kind(node) == "text":
            styles[node] = {name: model_value(page, page.parent(node), name) for name in INHERITED}
        else:
            styles[node] = {name: model_value(page, node, name) for name in property_names()}
    return styles


def model_shown(page, styles):
    """The shown nodes, each with all of its ancestors."""
    found = []
    for node in page.nodes():
        path = [node]
        while path[-1] != 1:
            path.append(page.parent(path[-1]))
        if all(styles[part].get("display") != "none" for part in path):
            found.append(node)
    return found


class Values(unittest.TestCase):
    def setUp(self):
        # 1 page, 2 a.m.n, 3 b.m, 4 text, 5 c, 6 text
        self.page = page_of(("a.m.n", [("b.m", ["x"]), ("c", ["y"])]))

    def value(self, node, name):
        return computed(self.page)[node][name]

    def test_point_46_first_values(self):
        styles = computed(self.page)
        self.assertEqual(sorted(styles), [1, 2, 3, 4, 5, 6])
        for node in [1, 2, 3, 5]:
            self.assertEqual(styles[node], {name: first_value(name) for name in property_names()})

    def test_point_46_own_values_prevail_over_all_rules(self):
        self.page.set_rules([("page > a.m.n", {"gap": 5, "size": 7})])
        self.assertEqual((self.value(2, "gap"), self.value(2, "size")), (5, 7))
        self.page.set_own(2, "gap", 0)
        self.page.set_own(2, "size", 2)
        self.assertEqual((self.value(2, "gap"), self.value(2, "size"), self.value(3, "size")), (0, 2, 2))
        self.page.clear_own(2, "gap")
        self.assertEqual(self.value(2, "gap"), 5)

    def test_point_46_the_first_number_of_the_weight_counts_first(self):
        strong, weak = ("* .m", {"gap": 1}), ("page a b", {"gap": 2})
        for rules in [[strong, weak], [weak, strong]]:
            self.page.set_rules(rules)
            self.assertEqual(self.value(3, "gap"), 1)

    def test_point_46_the_second_number_of_the_weight_counts_then(self):
        strong, weak = ("a .m", {"gap": 1}), ("* > .m", {"gap": 2})
        for rules in [[strong, weak], [weak, strong]]:
            self.page.set_rules(rules)
            self.assertEqual(self.value(3, "gap"), 1)

    def test_point_46_numbers_are_not_added_up(self):
        # (1, 0) against (0, 4), and (2, 0) against (1, 4).
        page = page_of(("a.m.n", [("b", [("c.m.n", [])])]))
        page.set_rules([(".m", {"gap": 1}), ("page a b c", {"gap": 2})])
        self.assertEqual(computed(page)[4]["gap"], 1)
        page.set_rules([(".m.n", {"gap": 1}), ("page a b c.m", {"gap": 2})])
        self.assertEqual(computed(page)[4]["gap"], 1)

    def test_point_46_the_later_one_of_equal_weight(self):
        first, second = ("a b", {"gap": 1}), ("page > b", {"gap": 2})
        page_b = ("page b", {"gap": 3})
        for rules, expected in [([first, page_b], 3), ([page_b, first], 1), ([first, page_b, second], 3),
                                ([page_b, second, first], 1), ([first, first, page_b, first], 1)]:
            self.page.set_rules(rules)
            self.assertEqual(self.value(3, "gap"), expected)

    def test_point_46_each_property_by_itself(self):
        self.page.set_rules([
            ("b", {"gap": 1, "grow": 1, "level": 1}), (".m", {"grow": 2}), ("*", {"gap": 3, "columns": 3}),
        ])
        self.page.set_own(3, "level", 9)
        told = [self.value(3, name) for name in ("gap", "grow", "level", "columns", "shrink")]
        self.assertEqual(told, [1, 2, 9, 3, 1])

    def test_point_46_rules_prevail_over_inheritance(self):
        self.page.set_own(2, "size", 9)
        self.page.set_rules([("*", {"size": 4})])
        self.assertEqual([self.value(node, "size") for node in (1, 2, 3, 4)], [4, 9, 4, 4])

    def test_point_46_inheritance_over_several_levels(self):
        values = {"align": "full", "color": 200, "lead": 3, "size": 20}
        for name, value in values.items():
            self.page.set_own(1, name, value)
        styles = computed(self.page)
        for node in self.page.nodes():
            self.assertEqual({name: styles[node][name] for name in INHERITED}, values)
        self.page.set_own(2, "size", 5)
        self.page.set_own(5, "color", 6)
        styles = computed(self.page)
        self.assertEqual([styles[node]["size"] for node in range(1, 7)], [20, 5, 5, 5, 5, 5])
        self.assertEqual([styles[node]["color"] for node in range(1, 7)], [200, 200, 200, 200, 6, 6])

    def test_point_46_all_other_properties_are_not_inherited(self):
        for name in property_names():
            if name not in INHERITED:
                page = page_of(("a", [("b", ["x"])]))
                other = {"display": "grid", "place": "free", "clip": "cut", "width": ("part", 9)}.get(name, 9)
                page.set_own(2, name, other)
                styles = computed(page)
                self.assertEqual([styles[node][name] for node in (1, 2, 3)],
                                 [first_value(name), other, first_value(name)])
                self.assertNotIn(name, styles[4])

    def test_point_46_the_root_is_always_a_block_in_the_flow(self):
        given = {"display": "none", "place": "free", "gap": 4, "size": 4}
        self.page.set_rules([("page", given), ("*", given)])
        for name, value in given.items():
            self.page.set_own(1, name, value)
        told = [self.value(1, name) for name in ("display", "place", "gap", "size")]
        self.assertEqual(told, ["block", "flow", 4, 4])
        self.assertEqual([self.value(2, name) for name in ("display", "place")], ["none", "free"])

    def test_point_46_another_box_called_page_is_like_any_box(self):
        page = page_of(("page", []))
        page.set_rules([("page", {"display": "row", "place": "shifted"})])
        self.assertEqual([computed(page)[node]["display"] for node in (1, 2)], ["block", "row"])
        self.assertEqual([computed(page)[node]["place"] for node in (1, 2)], ["flow", "shifted"])

    def test_point_47_texts_have_the_four_inherited_properties_alone(self):
        self.page.set_rules([("b", {"size": 8, "gap": 1}), ("*", {"color": 3})])
        self.page.set_own(3, "lead", 2)
        self.assertEqual(computed(self.page)[4], {"size": 8, "color": 3, "lead": 2, "align": "left"})
        self.assertEqual(computed(self.page)[6], {"size": 2, "color": 3, "lead": 0, "align": "left"})

    def test_point_47_a_text_of_the_root(self):
        page = page_of("x")
        page.set_own(1, "size", 7)
        self.assertEqual(computed(page)[2], {"size": 7, "color": 1, "lead": 0, "align": "left"})

    def test_point_46_after_edits_of_marks_and_moves(self):
        self.page.set_rules([("a .k", {"gap": 8}), (".m > c", {"color": 9})])
        self.assertEqual((self.value(3, "gap"), self.value(6, "color")), (0, 9))
        self.page.set_marks(3, ["k"])
        self.page.set_marks(2, ["n"])
        self.assertEqual((self.value(3, "gap"), self.value(6, "color")), (8, 1))
        self.page.move(3, 1, 0)
        self.assertEqual(self.value(3, "gap"), 0)
        self.page.undo()
        self.assertEqual(self.value(3, "gap"), 8)

    def test_points_46_and_47_random_pages(self):
        for page in some_pages(60, 50, seed=11):
            self.assertEqual(computed(page), model(page), page.snapshot())

    def test_point_46_a_large_page(self):
        source = random.Random(2)
        page = Page(100, 100)
        nodes = [1]
        while len(nodes) < 270:
            parent = nodes[-1] if len(nodes) < 29 else source.choice(nodes)
            if page.depth(parent) < 30:
                nodes.append(page.insert_box(parent, 0, "a", marks=["m"]))
        rules = [("* a.m > a *", {"gap": number, "size": 1 + number % 20}) for number in range(29)]
        page.set_rules([*rules, (".x a a a.m", {"gap": 99})])
        for _ in range(10):
            styles = computed(page)
            self.assertEqual(len(shown(page, styles)), 270)
        for node in source.sample(nodes, 12):
            self.assertEqual(styles[node]["gap"], 28 if page.depth(node) >= 4 else 0)

    def test_point_103_one_property_of_one_box_concerns_what_is_below_it(self):
        source = random.Random(7)
        for page in some_pages(20, 50, seed=13):
            boxes = [node for node in page.nodes() if page.kind(node) == "box"]
            for _ in range(10):
                before = computed(page)
                node, name = source.choice(boxes), source.choice(sorted(VALUES))
                page.set_own(node, name, source.choice(VALUES[name]))
                below = {node}
                for other in page.nodes():
                    if page.parent(other) in below:
                        below.add(other)
                after = computed(page)
                self.assertLessEqual({other for other in after if before[other] != after[other]}, below)


class Shown(unittest.TestCase):
    def setUp(self):
        self.page = page_of(("a", [("b", ["x"]), "y"]), ("c", []), "z")

    def found(self):
        return shown(self.page, computed(self.page))

    def test_point_48_all_nodes_in_document_order(self):
        self.assertEqual(self.found(), [1, 2, 3, 4, 5, 6, 7])
        self.page.move(6, 1, 0)
        self.assertEqual(self.found(), [1, 6, 2, 3, 4, 5, 7])

    def test_point_48_display_none_at_a_box_and_at_an_ancestor(self):
        self.page.set_own(3, "display", "none")
        self.assertEqual(self.found(), [1, 2, 5, 6, 7])
        self.page.set_own(2, "display", "none")
        self.assertEqual(self.found(), [1, 6, 7])
        self.page.clear_own(3, "display")
        self.page.set_own(3, "display", "block")
        self.assertEqual(self.found(), [1, 6, 7])

    def test_point_48_at_the_root(self):
        self.page.set_own(1, "display", "none")
        self.assertEqual(self.found(), [1, 2, 3, 4, 5, 6, 7])
        self.page.set_rules([("*", {"display": "none"})])
        self.assertEqual(self.found(), [1, 7])

    def test_point_48_other_displays(self):
        for value in ["block", "row", "grid"]:
            self.page.set_own(2, "display", value)
            self.assertEqual(self.found(), [1, 2, 3, 4, 5, 6, 7])

    def test_point_48_random_pages(self):
        for page in some_pages(60, 50, seed=17):
            styles = computed(page)
            self.assertEqual(shown(page, styles), model_shown(page, styles))


class Ownership(unittest.TestCase):
    def test_point_3_each_dict_and_list_is_a_new_one(self):
        page = page_of(("a", ["x", "y"]))
        page.set_rules([("a", {"gap": 4})])
        page.set_own(2, "level", 4)
        told = repr((computed(page), shown(page, computed(page)), page.snapshot()))
        first, second = computed(page), computed(page)
        for node in first:
            first[node]["size"] = 19
            first[node]["display"] = "none"
        first.clear()
        shown(page, second).clear()
        self.assertEqual(repr((computed(page), shown(page, second), page.snapshot())), told)
        self.assertEqual(second, computed(page))

    def test_point_3_styles_of_two_nodes_are_their_own(self):
        styles = computed(page_of("x", "y", ("a", []), ("a", [])))
        for node in styles:
            styles[node]["size"] = node
        self.assertEqual([styles[node]["size"] for node in sorted(styles)], sorted(styles))

    def test_point_3_arguments_are_not_changed(self):
        source = random.Random(3)
        for page in some_pages(10, 40, seed=19):
            before = page.snapshot()
            styles = computed(page)
            kept = repr(styles)
            shown(page, styles)
            self.assertEqual((page.snapshot(), repr(styles)), (before, kept))
            edit_at_random(page, source)
            self.assertEqual(repr(styles), kept)


if __name__ == "__main__":
    unittest.main()
