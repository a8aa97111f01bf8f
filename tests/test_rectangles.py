"""Points 88 and 89: scroll amounts and rectangles."""

import unittest

from quirekiln.layout import rectangles, scrolled
from quirekiln.page import Page
from quirekiln.styles import computed
from layouts import styled_page


def rects(page):
    return rectangles(page, computed(page))


def box(*sketch, **style):
    """A box."""
    return (style, list(sketch))


class Root(unittest.TestCase):
    def test_point_89_the_window_and_the_content(self):
        page = styled_page(100, 50, box(height=30))
        self.assertEqual(rects(page), {1: (0, 0, 100, 50), 2: (0, 0, 100, 30)})
        page.set_own(2, "height", 70)
        self.assertEqual(rects(page)[1], (0, 0, 100, 70))

    def test_point_89_a_window_that_is_smaller_than_the_frames(self):
        page = styled_page(10, 5, "a")
        page.set_own(1, "border", 6)
        page.set_own(1, "padding", 2)
        self.assertEqual(rects(page), {1: (0, 0, 16, 18), 2: (8, 8, 0, 2)})
        page.resize(0, 0)
        self.assertEqual(rects(page), {1: (0, 0, 16, 18), 2: (8, 8, 0, 2)})

    def test_point_89_an_empty_window(self):
        self.assertEqual(rects(Page(0, 0)), {1: (0, 0, 0, 0)})

    def test_point_87_what_counts_for_nothing(self):
        page = styled_page(100, 50, "a")
        before = rects(page)
        for name in ("margin_left", "margin_right", "margin_top", "margin_bottom", "width", "height", "left", "top"):
            page.set_own(1, name, 70)
        page.set_own(1, "place", "shifted")
        page.set_own(1, "least_width", 300)
        page.set_own(1, "most_width", 2)
        page.set_own(1, "display", "row")
        self.assertEqual(rects(page), before)


class Positions(unittest.TestCase):
    def test_point_89_shown_nodes_alone(self):
        page = styled_page(100, 50, box("a", box()), box("b", box(), display="none"), "c")
        self.assertEqual(list(rects(page)), [1, 2, 3, 4, 8])

    def test_point_89_positions_add_up(self):
        page = styled_page(100, 50, box(box(box("a", padding=1), padding=2, margin_left=3), border=4, margin_top=5))
        self.assertEqual(rects(page), {
            1: (0, 0, 100, 50), 2: (0, 5, 100, 16), 3: (7, 9, 89, 8), 4: (9, 11, 85, 4), 5: (10, 12, 83, 2),
        })

    def test_point_89_shifted_boxes_and_what_is_in_them(self):
        shifted = box("a", place="shifted", left=-7, top=9)
        page = styled_page(100, 50, shifted, box(box("b", left=5, top=5), left=3, top=3))
        self.assertEqual(rects(page), {
            1: (0, 0, 100, 50), 2: (-7, 9, 100, 2), 3: (-7, 9, 100, 2), 4: (0, 2, 100, 2), 5: (0, 2, 100, 2),
            6: (0, 2, 100, 2),
        })

    def test_point_89_free_boxes_are_carried_by_their_holder(self):
        page = styled_page(
            100, 50, box(height=10),
            box(box(box("a", place="free", left=2, top=3), padding=9), place="shifted", left=20, top=1),
        )
        self.assertEqual((rects(page)[5], rects(page)[6]), ((22, 14, 4, 2), (22, 14, 4, 2)))
        page.clear_own(3, "place")
        self.assertEqual(rects(page)[5], (2, 3, 4, 2))

    def test_point_89_the_last_task_of_a_child_of_a_row(self):
        page = styled_page(100, 50, box(box(box("a"), display="row", width=20), box(height=30, width=1), display="row"))
        # 3 is stretched, and 4 in it, because 3 is laid out again.
        self.assertEqual(rects(page), {
            1: (0, 0, 100, 50), 2: (0, 0, 100, 30), 3: (0, 0, 20, 30), 4: (0, 0, 4, 30), 5: (0, 0, 4, 2),
            6: (20, 0, 1, 30),
        })

    def test_point_89_a_stretched_row_moves_nothing_in_blocks_within_it(self):
        page = styled_page(100, 50, box(box(box("a", height=4)), display="row", height=20))
        self.assertEqual((rects(page)[3], rects(page)[4]), ((0, 0, 4, 20), (0, 0, 4, 4)))

    def test_point_3_a_new_dict_each_time(self):
        page = styled_page(10, 10, "a")
        styles = computed(page)
        rectangles(page, styles).clear()
        self.assertEqual(len(rectangles(page, styles)), 2)


class Scrolling(unittest.TestCase):
    def check(self, page, node, *cases):
        """Scrolls to the first pair of each case and compares the amounts with the second."""
        for position, expected in cases:
            page.scroll_to(node, *position)
            self.assertEqual(scrolled(page, computed(page), node), expected, position)

    def test_point_88_boxes_that_do_not_scroll(self):
        for clip in ("open", "cut"):
            page = styled_page(100, 50, box(box(height=90, width=90), clip=clip, height=10, width=10))
            self.check(page, 2, ((0, 0), (0, 0)), ((5, 6), (0, 0)), ((10000, 10000), (0, 0)))
            self.assertEqual(rects(page)[3], (0, 0, 90, 90))
        self.assertEqual(scrolled(page, computed(page), 1), (0, 0))

    def test_point_88_texts_do_not_scroll(self):
        page = styled_page(100, 50, "a")
        self.assertEqual(scrolled(page, computed(page), 2), (0, 0))

    def test_point_88_blocks(self):
        inside = box(width=90, height=70, margin_left=3, margin_right=4, margin_top=5, margin_bottom=6)
        page = styled_page(100, 50, box(inside, box(width=2), clip="scroll", width=30, height=40))
        # The content is 97 wide and 81 high.
        self.check(page, 2, ((0, 0), (0, 0)), ((3, 0), (3, 0)), ((0, 9), (0, 9)), ((66, 40), (66, 40)),
                   ((67, 41), (67, 41)), ((68, 42), (67, 41)), ((10000, 10000), (67, 41)))

    def test_point_88_padding_counts_and_the_border_does_not(self):
        style = {"clip": "scroll", "width": 30, "height": 40, "padding": 2, "border": 3}
        page = styled_page(100, 50, box(box(width=90, height=70), **style))
        self.check(page, 2, ((10000, 10000), (90 + 4 - 24, 70 + 4 - 34)))

    def test_point_88_boxes_whose_content_has_room(self):
        page = styled_page(100, 50, box(box(width=5, height=7), clip="scroll", width=30, height=40))
        self.check(page, 2, ((8, 9), (0, 0)))
        page = styled_page(100, 50, box(clip="scroll", width=30, height=40))
        self.check(page, 2, ((8, 9), (0, 0)))

    def test_point_88_rows(self):
        inside = [box(width=20, shrink=0, height=60, margin_left=1), box(width=20, shrink=0, margin_right=2)]
        page = styled_page(100, 50, box(*inside, clip="scroll", display="row", width=30, height=40, gap=5))
        self.check(page, 2, ((10000, 10000), (48 - 30, 60 - 40)))

    def test_point_88_the_frame_of_rows_and_grids_is_not_part_of_the_content(self):
        for display in ("row", "grid"):
            inside = [box(width=20, shrink=0, height=60), box(width=20, shrink=0)]
            style = {"clip": "scroll", "width": 30, "height": 40, "gap": 5, "padding": 2, "border": 3}
            page = styled_page(100, 50, box(*inside, **style, display=display))
            self.check(page, 2, ((10000, 10000), (45 + 4 - 24, 60 + 4 - 34)))

    def test_point_88_the_content_is_empty_without_flow_children(self):
        for display in ("block", "row", "grid"):
            style = {"clip": "scroll", "width": 0, "height": 0, "gap": 5, "border": 3, "padding": 1, "display": display}
            page = styled_page(100, 50, box(box(place="free", width=90, height=90), **style))
            self.check(page, 2, ((10000, 10000), (0, 0)))

    def test_point_88_grids(self):
        inside = [box(width=20, height=9), box(width=20, height=30), box(width=20, height=8)]
        style = {"clip": "scroll", "display": "grid", "width": 30, "height": 20, "gap": 5, "columns": 2}
        page = styled_page(100, 50, box(*inside, **style))
        self.check(page, 2, ((10000, 10000), (45 - 30, 43 - 20)))
        # Without flow children the content is empty, whatever the gaps are.
        page = styled_page(100, 50, box(**{**style, "columns": 10}))
        self.check(page, 2, ((10000, 10000), (0, 0)))
        page = styled_page(100, 50, box(box(width=1), **{**style, "columns": 10}))
        self.check(page, 2, ((10000, 10000), (1 + 45 - 30, 0)))

    def test_point_88_the_rectangle_of_the_root(self):
        page = styled_page(100, 50, box(width=130, height=40))
        page.set_own(1, "clip", "scroll")
        self.check(page, 1, ((10000, 10000), (30, 0)))
        # The rectangle of the root grows with its content.
        page.set_own(2, "height", 90)
        self.check(page, 1, ((10000, 10000), (30, 0)))
        self.assertEqual(rects(page), {1: (0, 0, 100, 90), 2: (-30, 0, 130, 90)})

    def test_point_88_the_height_of_a_stretched_box(self):
        row = box(box(box(height=70), clip="scroll", width=9), display="row", height=40)
        self.check(styled_page(100, 50, row), 3, ((0, 10000), (0, 30)))

    def test_point_89_what_a_scrolled_box_carries_moves(self):
        inside = [
            box("a", height=90, width=90), box(place="shifted", left=7, top=1), box(place="free", left=50, top=50),
        ]
        page = styled_page(100, 50, box(*inside, clip="scroll", width=30, height=40, place="shifted", left=0, border=1))
        page.scroll_to(2, 5, 6)
        found = rects(page)
        self.assertEqual(found[2], (0, 0, 30, 40))
        self.assertEqual((found[3], found[4]), ((-4, -5, 90, 90), (-4, -5, 90, 2)))
        self.assertEqual((found[5], found[6]), ((3, 86, 28, 0), (46, 45, 0, 0)))

    def test_point_89_a_free_box_whose_holder_is_not_scrolled_stays(self):
        page = styled_page(100, 50, box(box(height=90), box(place="free", left=3, top=4), clip="scroll", height=40))
        page.scroll_to(2, 0, 20)
        self.assertEqual(rects(page)[3], (0, -20, 100, 90))
        self.assertEqual(rects(page)[4], (3, 4, 0, 0))

    def test_point_89_scrolled_boxes_in_scrolled_boxes(self):
        inner = box(box(height=90), clip="scroll", height=40)
        page = styled_page(100, 50, box(inner, clip="scroll", height=25))
        page.scroll_to(2, 0, 10)
        page.scroll_to(3, 0, 30)
        self.assertEqual(rects(page), {
            1: (0, 0, 100, 50), 2: (0, 0, 100, 25), 3: (0, -10, 100, 40), 4: (0, -40, 100, 90),
        })


if __name__ == "__main__":
    unittest.main()
