"""Points 110 to 113 and 115: painted items, cutting, sheets, and what changed."""

import copy
import random
import unittest

from quirekiln.layout import rectangles
from quirekiln.painting import changed_items, painted_items
from quirekiln.styles import computed
from layouts import LAYOUT_VALUES, PAINT_VALUES, random_trees, styled_page
from paints import Painter, changed


def items(page):
    """The painted items of a page."""
    styles = computed(page)
    return painted_items(page, styles, rectangles(page, styles))


def box(*sketch, **style):
    """A box."""
    return (style, list(sketch))


def ground(rect, color, node):
    """The item of a ground."""
    return ("ground", rect, color, node, 0, 0)


def order(page):
    """The nodes of the items, each at its first item."""
    return list(dict.fromkeys(item[3] for item in items(page)))


class Items(unittest.TestCase):
    def test_point_111_boxes_that_show_nothing_by_themselves(self):
        self.assertEqual(items(styled_page(20, 10)), [])
        self.assertEqual(items(styled_page(20, 10, box(height=5, padding=2, color=7))), [])

    def test_point_111_grounds(self):
        page = styled_page(20, 10, box(height=5, background=7))
        self.assertEqual(items(page), [ground((0, 0, 20, 5), 7, 2)])
        page.set_own(1, "background", 255)
        self.assertEqual(items(page), [ground((0, 0, 20, 10), 255, 1), ground((0, 0, 20, 5), 7, 2)])

    def test_point_111_edges_in_their_order(self):
        page = styled_page(20, 10, box(height=9, border=2, border_color=6, margin_left=1, margin_top=3))
        self.assertEqual(items(page), [
            ("edge", (1, 3, 19, 2), 6, 2, 0, 0), ("edge", (1, 10, 19, 2), 6, 2, 0, 0),
            ("edge", (1, 5, 2, 5), 6, 2, 0, 0), ("edge", (18, 5, 2, 5), 6, 2, 0, 0),
        ])

    def test_point_111_the_ground_lies_below_the_edges_and_is_as_wide_as_the_box(self):
        page = styled_page(20, 10, box(height=4, border=1, background=3))
        self.assertEqual(items(page)[0], ground((0, 0, 20, 4), 3, 2))
        self.assertEqual([item[0] for item in items(page)], ["ground", "edge", "edge", "edge", "edge"])

    def test_point_110_no_item_is_empty(self):
        self.assertEqual(items(styled_page(20, 10, box(background=3))), [])
        self.assertEqual(items(styled_page(0, 0, box(background=3, height=9))), [])
        # Between the upper and the lower edge there is nothing.
        page = styled_page(20, 10, box(border=3, width=0, height=0))
        self.assertEqual([item[1] for item in items(page)], [(0, 0, 6, 3), (0, 3, 6, 3)])
        page = styled_page(20, 10, box(border=3, width=9, height=7))
        self.assertEqual([item[1] for item in items(page)], [(0, 0, 9, 3), (0, 4, 9, 3), (0, 3, 3, 1), (6, 3, 3, 1)])

    def test_point_111_a_border_thicker_than_half_the_box(self):
        # No layout gives such a box, but each edge is as thick as the border in any rectangle.
        page = styled_page(20, 10, box(border=5))
        styles = computed(page)
        found = painted_items(page, styles, {1: (0, 0, 20, 10), 2: (0, 0, 9, 8)})
        self.assertEqual([item[1] for item in found], [(0, 0, 9, 5), (0, 3, 9, 5)])

    def test_point_111_ink_with_its_place_and_color(self):
        page = styled_page(60, 40, box(" ab cd\nef", size=3, lead=2, color=9, margin_left=1, margin_top=2, width=20))
        # The widths of ab, cd and ef are 12 each, so each has its own line.
        self.assertEqual(items(page), [
            ("ink", (1, 2, 12, 3), 9, 3, 1, 3), ("ink", (1, 7, 12, 3), 9, 3, 4, 6), ("ink", (1, 12, 12, 3), 9, 3, 7, 9),
        ])

    def test_point_111_ink_by_the_alignment(self):
        page = styled_page(30, 40, box("ab cd ef", size=1, width=11, align="full"))
        self.assertEqual([item[1] for item in items(page)], [(0, 0, 4, 1), (7, 0, 4, 1), (0, 1, 4, 1)])
        page.set_own(2, "align", "right")
        self.assertEqual([item[1] for item in items(page)], [(2, 0, 4, 1), (7, 0, 4, 1), (7, 1, 4, 1)])
        page.set_own(2, "align", "center")
        self.assertEqual([item[1] for item in items(page)], [(1, 0, 4, 1), (6, 0, 4, 1), (3, 1, 4, 1)])

    def test_point_111_ink_of_words_wider_than_their_line(self):
        page = styled_page(30, 40, box("abc", size=1, width=3, align="right"))
        self.assertEqual([item[1] for item in items(page)], [(0, 0, 6, 1)])

    def test_points_110_and_111_hidden_nodes_show_nothing(self):
        page = styled_page(30, 40, box("a", box("b", background=3), display="none", background=4), "c")
        self.assertEqual(order(page), [6])

    def test_the_order_of_the_dict_of_rectangles_counts_for_nothing(self):
        page = styled_page(20, 10, box("a", box("b"), background=7), box("c", place="free", clip="cut"), "d")
        page.move(2, 1, 2)
        styles = computed(page)
        rects = rectangles(page, styles)
        for nodes in [sorted(rects), sorted(rects, reverse=True)]:
            self.assertEqual(painted_items(page, styles, {node: rects[node] for node in nodes}), items(page))

    def test_point_3_new_lists_and_nothing_is_changed(self):
        page = styled_page(20, 10, box("a", background=7))
        styles = computed(page)
        rects = rectangles(page, styles)
        before = copy.deepcopy((styles, rects, page.snapshot()))
        painted_items(page, styles, rects).clear()
        self.assertEqual(len(painted_items(page, styles, rects)), 2)
        self.assertEqual((styles, rects, page.snapshot()), before)


class Cutting(unittest.TestCase):
    def rects(self, page, *nodes):
        """The rectangles of the items of some nodes."""
        return [item[1] for item in items(page) if item[3] in nodes]

    def test_point_112_cut_to_the_padding_box(self):
        for clip in ("cut", "scroll"):
            inside = box(width=90, height=70, background=2)
            page = styled_page(100, 100, box(inside, clip=clip, width=30, height=20, border=3, padding=4))
            self.assertEqual(self.rects(page, 3), [(7, 7, 20, 10)])
            page.set_own(2, "clip", "open")
            self.assertEqual(self.rects(page, 3), [(7, 7, 90, 70)])

    def test_point_112_a_box_is_not_cut_to_its_own_padding_box(self):
        page = styled_page(100, 100, box(clip="cut", width=10, height=10, border=2, background=5))
        self.assertEqual(self.rects(page, 2), [
            (0, 0, 10, 10), (0, 0, 10, 2), (0, 8, 10, 2), (0, 2, 2, 6), (8, 2, 2, 6),
        ])

    def test_point_112_edges_and_ink_are_cut(self):
        page = styled_page(100, 100, box(box(height=20, border=2), clip="cut", width=10, height=10))
        self.assertEqual(self.rects(page, 3), [(0, 0, 10, 2), (0, 2, 2, 8), (8, 2, 2, 8)])
        page = styled_page(100, 100, box("abcd ef", size=3, clip="cut", width=10, height=4))
        self.assertEqual(items(page), [("ink", (0, 0, 10, 3), 1, 3, 0, 4), ("ink", (0, 3, 10, 1), 1, 3, 5, 7)])

    def test_point_112_items_that_are_cut_away(self):
        page = styled_page(100, 100, box("a\nb", box(height=9, background=2), clip="cut", width=10, height=2))
        self.assertEqual(order(page), [3])
        self.assertEqual(len(items(page)), 1)
        page.set_own(2, "height", 0)
        self.assertEqual(items(page), [])

    def test_point_112_several_boxes_that_clip(self):
        deepest = box(width=50, height=50, background=2, margin_left=5)
        page = styled_page(100, 100, box(box(deepest, clip="cut", width=20, height=90), clip="cut", width=90, height=8))
        self.assertEqual(self.rects(page, 4), [(5, 0, 15, 8)])
        # Where the boxes have no cell in common, nothing is left.
        far = box(box(deepest, clip="cut", place="shifted", top=30, height=9), clip="cut", height=8)
        self.assertEqual(items(styled_page(100, 100, far)), [])

    def test_point_112_free_boxes_are_cut_by_their_carriers_alone(self):
        free = box(place="free", width=50, height=50, background=2)
        page = styled_page(100, 100, box(free, clip="cut", width=9, height=9))
        self.assertEqual(self.rects(page, 3), [(0, 0, 50, 50)])
        page.set_own(2, "place", "shifted")
        self.assertEqual(self.rects(page, 3), [(0, 0, 9, 9)])
        page.clear_own(2, "place")
        page.set_own(1, "clip", "cut")
        page.set_own(1, "border", 60)
        self.assertEqual(self.rects(page, 3), [])
        page.resize(150, 100)
        # The root is 150 by 129, so its padding box is 30 by 9.
        self.assertEqual(self.rects(page, 3), [(60, 60, 30, 9)])

    def test_point_112_what_is_in_a_free_box(self):
        inside = box(width=90, height=90, background=2)
        free = box(inside, place="free", clip="cut", width=50, height=40)
        page = styled_page(100, 100, box(free, clip="cut", width=9, height=9))
        self.assertEqual(self.rects(page, 4), [(0, 0, 50, 40)])

    def test_point_112_scrolled_boxes(self):
        inside = box(width=90, height=70, background=2)
        page = styled_page(100, 100, box(inside, "a", clip="scroll", width=30, height=20))
        page.scroll_to(2, 5, 60)
        self.assertEqual(self.rects(page, 3), [(0, 0, 30, 18)])
        # The text is 4 wide and scrolled out to the left.
        self.assertEqual(self.rects(page, 4), [])
        page.scroll_to(2, 0, 60)
        self.assertEqual(self.rects(page, 4), [(0, 18, 4, 2)])

    def test_point_112_items_are_not_cut_to_the_window(self):
        page = styled_page(20, 10, box(place="shifted", left=-30, top=-7, width=200, height=90, background=2))
        self.assertEqual(self.rects(page, 2), [(-30, -7, 200, 90)])


class Sheets(unittest.TestCase):
    def test_point_113_document_order_without_sheets(self):
        page = styled_page(50, 50, box("a", box("b", background=1), background=1), "c", box(background=1, height=1))
        self.assertEqual(order(page), [2, 3, 4, 5, 6, 7])

    def sheet(self, level, *sketch, place="free"):
        return box(*sketch, place=place, level=level, background=1, width=3, height=3)

    def test_point_113_levels_below_0_and_from_0_on(self):
        page = styled_page(50, 50, self.sheet(1), self.sheet(-1), "a", self.sheet(0), self.sheet(-100), self.sheet(100))
        page.set_own(1, "background", 1)
        self.assertEqual(order(page), [1, 6, 3, 4, 5, 2, 7])

    def test_point_113_equal_levels_in_document_order(self):
        page = styled_page(50, 50, self.sheet(2), self.sheet(-3), self.sheet(2), "a", self.sheet(-3), self.sheet(2))
        self.assertEqual(order(page), [3, 6, 5, 2, 4, 7])

    def test_point_113_shifted_and_free_boxes_alike(self):
        page = styled_page(50, 50, self.sheet(1, place="shifted"), "a", self.sheet(0), self.sheet(-1, place="shifted"))
        self.assertEqual(order(page), [5, 3, 4, 2])

    def test_point_113_sheets_on_sheets_stay_together(self):
        low = self.sheet(-1, self.sheet(50), "a", self.sheet(-50))
        high = self.sheet(1, self.sheet(-100), "b")
        # 1 page, 2 high, 3 -100, 4 b, 5 low, 6 50, 7 a, 8 -50, 9 c
        page = styled_page(50, 50, high, low, "c")
        self.assertEqual(order(page), [5, 8, 7, 6, 9, 2, 3, 4])

    def test_point_113_the_items_of_a_sheet_come_first_and_its_texts_between(self):
        page = styled_page(50, 50, self.sheet(0, self.sheet(-1), "a", box("b", background=1), self.sheet(0)))
        self.assertEqual(order(page), [2, 3, 4, 5, 6, 7])

    def test_point_113_sheets_within_boxes_in_flow_lie_on_the_next_sheet_above(self):
        page = styled_page(50, 50, box(self.sheet(-1), self.sheet(1), "a", background=1), "b")
        self.assertEqual(order(page), [3, 2, 5, 6, 4])

    def test_point_113_the_level_of_boxes_in_flow_and_of_the_root_counts_for_nothing(self):
        page = styled_page(50, 50, box("a", level=5, background=1), "b", box("c", level=-5, background=1))
        page.set_own(1, "background", 1)
        page.set_own(1, "level", 100)
        self.assertEqual(order(page), [1, 2, 3, 4, 5, 6])

    def test_point_113_hidden_sheets(self):
        page = styled_page(50, 50, box("a", place="free", display="none"), "b")
        self.assertEqual(order(page), [4])


class Pages(unittest.TestCase):
    def test_points_110_to_113_against_the_model(self):
        values = {**LAYOUT_VALUES, **PAINT_VALUES, "background": [3, 9], "clip": ["open", "cut", "scroll"]}
        for page in random_trees(80, 40, seed=11, values=values):
            styles = computed(page)
            self.assertEqual(items(page), Painter(page, styles).painted())


class Changes(unittest.TestCase):
    def check(self, old, new, expected):
        old, new = [self.item(char) for char in old], [self.item(char) for char in new]
        before = (list(old), list(new))
        self.assertEqual(changed_items(old, new), [self.item(char) for char in expected])
        self.assertEqual((old, new), before)

    def item(self, char):
        return ("ground", (0, 0, 1, ord(char)), 1, 2, 0, 0)

    def test_point_115_equal_lists(self):
        self.check("", "", "")
        self.check("abc", "abc", "")

    def test_point_115_one_list_is_empty(self):
        self.check("abc", "", "abc")
        self.check("", "abc", "abc")

    def test_point_115_a_common_beginning(self):
        self.check("abc", "abde", "cde")
        self.check("ab", "abcd", "cd")
        self.check("abcd", "ab", "cd")

    def test_point_115_a_common_end(self):
        self.check("xbc", "yzbc", "xyz")
        self.check("bc", "abc", "a")

    def test_point_115_both(self):
        self.check("abcde", "abxde", "cx")
        self.check("abcde", "abde", "c")

    def test_point_115_a_beginning_and_an_end_that_overlap(self):
        self.check("aa", "aaa", "a")
        self.check("aba", "ababa", "ba")
        self.check("abab", "ab", "ab")
        self.check("aaaa", "aa", "aa")

    def test_point_115_the_same_items_in_another_order(self):
        self.check("abc", "acb", "bccb")
        self.check("abc", "cba", "abccba")

    def test_point_115_against_the_model(self):
        source = random.Random(2)
        for _ in range(2000):
            old, new = ["".join(source.choices("ab", k=source.randint(0, 6))) for _ in range(2)]
            self.check(old, new, "".join(changed(old, new)))

    def test_point_3_a_new_list(self):
        old = [self.item("a")]
        self.assertIsNot(changed_items(old, []), old)
        self.assertIsNot(changed_items([], old), old)


if __name__ == "__main__":
    unittest.main()
