"""Points 120 to 125: hits, carets and selections."""

import unittest

from quirekiln.engine import Engine
from quirekiln.errors import BadPlace, NoNode, PageError
from quirekiln.page import Page
from quirekiln.pointing import hit_at, hits_at
from layouts import styled_page


def box(*sketch, **style):
    """A box."""
    return (style, list(sketch))


def engine_of(page):
    """An engine of a page that has been refreshed."""
    engine = Engine(page)
    engine.refresh()
    return engine


def item(rect, node):
    """A painted item."""
    return ("ground", rect, 1, node, 0, 0)


ITEMS = [
    item((0, 0, 9, 9), 1), item((2, 2, 4, 4), 5), item((3, 3, 9, 9), 4), item((2, 2, 2, 2), 5), item((7, 0, 0, 9), 8),
]


class Hits(unittest.TestCase):
    def test_point_120_the_last_item_that_covers_the_cell(self):
        cells = [(0, 0), (2, 2), (3, 3), (4, 4), (8, 8), (11, 11), (12, 12), (-1, 0), (7, 0)]
        self.assertEqual([hit_at(ITEMS, x, y) for x, y in cells], [1, 5, 5, 4, 4, 4, 0, 0, 1])
        self.assertEqual(hit_at([], 0, 0), 0)

    def test_point_120_each_node_at_its_first_place_from_the_top(self):
        cells = [(0, 0), (2, 2), (3, 3), (4, 4), (8, 8), (11, 11), (12, 12)]
        self.assertEqual([hits_at(ITEMS, x, y) for x, y in cells], [
            [1], [5, 1], [5, 4, 1], [4, 5, 1], [4, 1], [4], [],
        ])
        self.assertEqual(hits_at([], 0, 0), [])

    def test_point_120_any_cell(self):
        far = [item((-50, 900, 10, 10), 3)]
        self.assertEqual((hit_at(far, -45, 905), hits_at(far, -45, 905)), (3, [3]))

    def test_point_3_nothing_is_changed(self):
        before = list(ITEMS)
        hits_at(ITEMS, 3, 3).append(7)
        self.assertEqual(hits_at(ITEMS, 3, 3), [5, 4, 1])
        self.assertEqual(ITEMS, before)

    def test_point_120_of_an_engine(self):
        page = styled_page(20, 10, box("a", background=2, border=1), box(place="free", width=3, height=3, background=4))
        page.set_own(1, "background", 1)
        engine = engine_of(page)
        cells = [(0, 0), (3, 1), (2, 1), (7, 1), (0, 3), (0, 4), (19, 9)]
        self.assertEqual([engine.hit(x, y) for x, y in cells], [4, 3, 4, 2, 2, 1, 1])
        self.assertEqual([engine.hits(x, y) for x, y in cells], [
            [4, 2, 1], [3, 2, 1], [4, 3, 2, 1], [2, 1], [2, 1], [1], [1],
        ])

    def test_point_120_outside_of_the_window(self):
        page = styled_page(20, 10, box(place="free", left=-5, top=-5, width=90, height=90, background=4))
        engine = engine_of(page)
        for x, y in [(-1, 0), (0, -1), (20, 0), (0, 10), (10 ** 9, 10 ** 9)]:
            self.assertEqual((engine.hit(x, y), engine.hits(x, y), engine.pixel(x, y)), (0, [], 0))
        for x, y in [(0, 0), (19, 0), (0, 9), (19, 9)]:
            self.assertEqual((engine.hit(x, y), engine.hits(x, y), engine.pixel(x, y)), (2, [2], 4))

    def test_point_120_cells_without_an_item(self):
        engine = engine_of(styled_page(20, 10, "a b"))
        # The first character is 4 wide, and the space after it belongs to no item.
        self.assertEqual([engine.hit(x, 0) for x in (0, 3, 4, 5, 6)], [2, 2, 0, 0, 2])
        self.assertEqual(engine.hits(4, 0), [])

    def test_point_3_new_lists(self):
        engine = engine_of(styled_page(20, 10, "a"))
        engine.hits(0, 0).clear()
        self.assertEqual(engine.hits(0, 0), [2])


class Carets(unittest.TestCase):
    def setUp(self):
        # 2 box, 3 text, 4 hidden box, 5 text
        self.page = styled_page(
            40, 30, box("ab cd\nef", size=3, lead=1, width=20, place="shifted", left=5, top=7, padding=1),
            box("hidden", display="none"),
        )
        self.engine = engine_of(self.page)

    def test_point_122_the_caret_of_the_setting_at_the_place_of_the_text(self):
        told = [self.engine.caret(3, index) for index in range(9)]
        self.assertEqual(told, [
            (6, 8, 1, 3), (12, 8, 1, 3), (18, 8, 1, 3), (6, 12, 1, 3), (12, 12, 1, 3), (18, 12, 1, 3),
            (6, 16, 1, 3), (12, 16, 1, 3), (18, 16, 1, 3),
        ])

    def test_point_122_not_cut_and_beyond_the_window(self):
        self.page.set_own(2, "clip", "cut")
        self.page.set_own(2, "height", 3)
        self.page.set_own(2, "left", -100)
        self.engine.refresh()
        self.assertEqual(self.engine.caret(3, 8), (-87, 16, 1, 3))

    def test_point_122_errors(self):
        for node in (0, 1, 2, 4, 5, 99, -3):
            self.check(NoNode, node, lambda: self.engine.caret(node, 0))
            # The node is checked first.
            self.check(NoNode, node, lambda: self.engine.caret(node, -1))
            self.check(NoNode, node, lambda: self.engine.index_at(node, 0, 0))
        for index in (-1, 9, 500):
            self.check(BadPlace, index, lambda: self.engine.caret(3, index))
        self.assertEqual(self.engine.caret(3, 8), (18, 16, 1, 3))

    def test_point_122_an_empty_text(self):
        engine = engine_of(styled_page(9, 9, "", box(size=4)))
        self.assertEqual(engine.caret(2, 0), (0, 0, 1, 2))
        self.check(BadPlace, 1, lambda: engine.caret(2, 1))
        self.assertEqual(engine.index_at(2, 7, 7), 0)

    def check(self, error, value, call):
        with self.assertRaises(PageError) as held:
            call()
        self.assertEqual((held.exception.__class__, held.exception.value), (error, value))

    def test_point_123_the_nearest_index(self):
        cells = [(6, 8), (8, 8), (9, 8), (10, 8), (99, 8), (6, 11), (6, 12), (13, 13), (6, 99), (-50, -50), (14, 17)]
        told = [self.engine.index_at(3, x, y) for x, y in cells]
        self.assertEqual(told, [0, 0, 0, 1, 2, 0, 3, 4, 6, 0, 7])

    def test_point_122_each_index_is_nearest_to_its_caret(self):
        engine = engine_of(styled_page(40, 30, "one two three four", "", "x\n\ny z"))
        for node, string in [(2, "one two three four"), (3, ""), (4, "x\n\ny z")]:
            for index in range(len(string) + 1):
                x, y, _, _ = engine.caret(node, index)
                nearest = engine.index_at(node, x, y)
                self.assertEqual(engine.caret(node, nearest)[:2], (x, y))

    def test_point_122_the_align_of_the_text(self):
        self.page.set_own(2, "align", "right")
        self.engine.refresh()
        # The inner width is 18, and "ef" is 12 wide.
        self.assertEqual(self.engine.caret(3, 6), (12, 16, 1, 3))
        self.assertEqual(self.engine.index_at(3, 0, 16), 6)

    def test_point_100_as_of_the_last_refresh(self):
        self.page.set_text(3, "")
        self.page.set_own(2, "left", 90)
        self.page.set_own(4, "display", "block")
        self.assertEqual(self.engine.caret(3, 8), (18, 16, 1, 3))
        self.assertEqual(self.engine.index_at(3, 18, 16), 8)
        self.check(NoNode, 5, lambda: self.engine.caret(5, 0))
        self.page.remove(3)
        self.assertEqual(self.engine.caret(3, 8), (18, 16, 1, 3))
        self.page.undo()
        self.engine.refresh()
        self.check(BadPlace, 8, lambda: self.engine.caret(3, 8))
        self.assertEqual(self.engine.caret(3, 0), (91, 8, 1, 3))
        self.assertEqual(self.engine.caret(5, 0)[3], 2)


class Selections(unittest.TestCase):
    def setUp(self):
        # 2 text, 3 box, 4 text, 5 hidden box, 6 text, 7 text
        self.page = styled_page(
            30, 30, "ab cd", box("e f", size=1), box("hidden", display="none"), "gh",
        )
        self.page.set_own(1, "size", 1)
        self.engine = engine_of(self.page)

    def check(self, first, last, rects, string):
        """Both orders of the ends give the same."""
        for one, other in [(first, last), (last, first)]:
            self.assertEqual(self.engine.selection(one, other), rects)
            self.assertEqual(self.engine.selected_text(one, other), string)

    def test_point_125_within_one_text(self):
        self.check((2, 0), (2, 5), [(0, 0, 4, 1), (5, 0, 4, 1)], "ab cd")
        self.check((2, 1), (2, 4), [(2, 0, 2, 1), (5, 0, 2, 1)], "b c")
        self.check((2, 2), (2, 3), [], " ")

    def test_point_125_equal_ends(self):
        for index in range(6):
            self.check((2, index), (2, index), [], "")

    def test_point_125_several_texts_without_the_hidden_ones(self):
        self.check((2, 3), (7, 1), [(5, 0, 4, 1), (0, 1, 2, 1), (3, 1, 2, 1), (0, 2, 2, 1)], "cd\ne f\ng")
        self.check((2, 5), (4, 0), [], "\n")
        self.check((2, 5), (7, 0), [(0, 1, 2, 1), (3, 1, 2, 1)], "\ne f\n")

    def test_point_124_the_order_of_the_document_and_not_of_the_ids(self):
        self.page.move(7, 1, 0)
        self.engine.refresh()
        self.check((2, 2), (7, 1), [(2, 0, 2, 1), (0, 1, 4, 1)], "h\nab")
        self.check((7, 2), (4, 1), [(0, 1, 4, 1), (5, 1, 4, 1), (0, 2, 2, 1)], "\nab cd\ne")

    def test_point_125_cut_texts(self):
        self.page.set_own(3, "clip", "cut")
        self.page.set_own(3, "width", 4)
        self.page.set_own(3, "height", 1)
        self.engine.refresh()
        # "e f" is 5 wide, so "f" is on the second line and cut away.
        self.check((4, 0), (4, 3), [(0, 1, 2, 1)], "e f")
        self.page.set_own(3, "width", 1)
        self.engine.refresh()
        self.check((4, 0), (7, 0), [(0, 1, 1, 1)], "e f\n")

    def test_point_125_texts_within_a_scrolled_box(self):
        self.page.set_own(3, "clip", "scroll")
        self.page.set_own(3, "width", 0)
        self.page.set_own(3, "least_width", 1)
        self.page.set_own(3, "height", 1)
        self.page.scroll_to(3, 0, 1)
        self.engine.refresh()
        self.check((4, 0), (4, 3), [(0, 1, 1, 1)], "e f")
        self.assertEqual(self.engine.caret(4, 0), (0, 0, 1, 1))

    def test_point_125_several_lines_and_newlines(self):
        self.page.set_text(2, "ab\ncd ")
        self.engine.refresh()
        self.check((2, 0), (2, 6), [(0, 0, 4, 1), (0, 1, 4, 1)], "ab\ncd ")
        self.check((2, 2), (4, 1), [(0, 1, 4, 1), (0, 2, 2, 1)], "\ncd \ne")

    def refused(self, error, value, first, last):
        for call in (self.engine.selection, self.engine.selected_text):
            with self.assertRaises(PageError) as held:
                call(first, last)
            self.assertEqual((held.exception.__class__, held.exception.value), (error, value))

    def test_point_125_errors(self):
        for node in (0, 1, 3, 5, 6, 99):
            self.refused(NoNode, node, (node, 0), (2, 0))
            self.refused(NoNode, node, (2, 0), (node, 0))
        for index in (-1, 6):
            self.refused(BadPlace, index, (2, index), (7, 0))
            self.refused(BadPlace, index, (7, 0), (2, index))

    def test_point_125_both_errors_of_first_come_before_those_of_last(self):
        self.refused(NoNode, 99, (99, -1), (98, -2))
        self.refused(BadPlace, -1, (2, -1), (98, -2))
        self.refused(NoNode, 98, (2, 5), (98, -2))
        self.refused(BadPlace, -2, (2, 5), (7, -2))
        self.refused(NoNode, 3, (3, 9), (2, 0))

    def test_point_100_as_of_the_last_refresh(self):
        told = (self.engine.selection((2, 3), (7, 1)), self.engine.selected_text((2, 3), (7, 1)))
        self.page.move(7, 1, 0)
        self.page.set_text(4, "")
        self.page.set_own(5, "display", "block")
        self.page.set_own(1, "size", 9)
        self.page.remove(2)
        self.assertEqual((self.engine.selection((2, 3), (7, 1)), self.engine.selected_text((2, 3), (7, 1))), told)

    def test_point_3_new_lists(self):
        self.engine.selection((2, 0), (2, 5)).clear()
        self.assertEqual(len(self.engine.selection((2, 0), (2, 5))), 2)


class Nothing(unittest.TestCase):
    def test_point_122_a_page_without_texts(self):
        engine = engine_of(Page(5, 5))
        with self.assertRaises(NoNode):
            engine.caret(1, 0)


if __name__ == "__main__":
    unittest.main()
