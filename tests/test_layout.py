"""Points 75 to 79 and 84: the results of tasks of texts, blocks and grids."""

import unittest

from quirekiln.layout import lay
from quirekiln.styles import computed
from layouts import styled_page


def result(style, *sketch, width=100, height="auto"):
    """The result of a task of the box 2 with this style and this inside."""
    page = styled_page(300, 300, (style, sketch))
    return lay(page, computed(page), 2, width, height)


class Texts(unittest.TestCase):
    def check(self, string, style, width, expected):
        page = styled_page(300, 300, (style, [string]))
        self.assertEqual(lay(page, computed(page), 3, width, "auto"), (expected, []))

    def test_point_77_lines_times_size_and_lead(self):
        self.check("ab cd ef", {"size": 1}, 100, 1)
        self.check("ab cd ef", {"size": 1}, 14, 1)
        self.check("ab cd ef", {"size": 1}, 13, 2)
        self.check("ab cd ef", {"size": 1}, 0, 3)
        self.check("ab cd ef", {"size": 3, "lead": 2}, 0, 15)
        self.check("", {"size": 3, "lead": 2}, 0, 5)
        self.check("\n\n", {"size": 1, "lead": 0}, 9, 3)


class Blocks(unittest.TestCase):
    def test_point_79_without_flow_children(self):
        self.assertEqual(result({}), (0, []))
        self.assertEqual(result({"border": 2, "padding": 3}), (10, []))
        self.assertEqual(result({}, ({"display": "none"}, ["x"])), (0, []))

    def test_point_79_texts_have_the_inner_width(self):
        places = [(3, 3, 3, 94, 2), (4, 3, 5, 94, 4)]
        self.assertEqual(result({"border": 1, "padding": 2}, "ab", "c\nd"), (12, places))
        # In an inner width of 0 each word has its own line.
        self.assertEqual(result({"padding": 3}, "a b", width=6), (10, [(3, 3, 3, 0, 4)]))
        self.assertEqual(result({"padding": 3}, "a b", width=2), (10, [(3, 3, 3, 0, 4)]))

    def test_point_79_margins_meet(self):
        self.assertEqual(
            result({"padding": 1}, ({"height": 10, "margin_top": 3, "margin_bottom": 4}, []),
                   ({"height": 10, "margin_top": 6, "margin_bottom": 2}, []),
                   ({"height": 10, "margin_top": 1, "margin_bottom": 7}, [])),
            (2 + 3 + 10 + 6 + 10 + 2 + 10 + 7, [(3, 1, 4, 98, 10), (4, 1, 20, 98, 10), (5, 1, 32, 98, 10)]),
        )

    def test_point_79_the_margins_of_texts_are_0(self):
        box = ({"height": 10, "margin_top": 3, "margin_bottom": 4}, [])
        self.assertEqual(result({}, "a", box, "b"), (21, [(3, 0, 0, 100, 2), (4, 0, 5, 100, 10), (5, 0, 19, 100, 2)]))

    def test_point_79_boxes_of_height_0_keep_both_spaces(self):
        thin = ({"margin_top": 3, "margin_bottom": 4}, [])
        self.assertEqual(result({}, thin, thin)[0], 3 + 4 + 4)

    def test_point_79_automatic_widths(self):
        style = {"margin_left": 5, "margin_right": 7}
        self.assertEqual(result({}, (style, [])), (0, [(3, 5, 0, 88, 0)]))
        self.assertEqual(result({}, ({**style, "most_width": 30}, [])), (0, [(3, 5, 0, 30, 0)]))
        self.assertEqual(result({}, ({**style, "least_width": 95}, [])), (0, [(3, 5, 0, 95, 0)]))
        self.assertEqual(result({}, (style, []), width=10), (0, [(3, 5, 0, 0, 0)]))
        self.assertEqual(result({}, ({**style, "border": 2}, []), width=10), (4, [(3, 5, 0, 4, 4)]))

    def test_point_79_numbers_and_parts(self):
        def width(value, **more):
            return result({"padding": 3}, ({"width": value, "margin_left": 5, **more}, []), width=105)[1][0][3]
        self.assertEqual([width(0), width(70), width(200)], [0, 70, 200])
        self.assertEqual([width(("part", n)) for n in (0, 1, 50, 99, 100)], [0, 0, 49, 98, 99])
        self.assertEqual([width(70, most_width=60), width(70, least_width=80), width(0, border=4)], [60, 80, 8])
        self.assertEqual([width(("part", 50), most_width=9), width(("part", 50), least_width=50)], [9, 50])

    def test_point_78_heights(self):
        frame = {"border": 1, "padding": 2}
        self.assertEqual(result({**frame, "height": 50}, "a")[0], 50)
        self.assertEqual(result({**frame, "height": 1}, "a")[0], 6)
        self.assertEqual(result({**frame, "height": 0})[0], 6)
        self.assertEqual(result(frame, "a")[0], 8)

    def test_point_78_the_height_of_the_task_comes_first(self):
        style = {"border": 1, "padding": 2, "height": 50}
        for height in (0, 3, 70):
            self.assertEqual(result(style, "a", height=height), (height, [(3, 3, 3, 94, 2)]))

    def test_point_75_free_and_hidden_children_have_no_place_in_the_flow(self):
        free, hidden = ({"place": "free", "height": 50, "width": 9}, []), ({"display": "none", "height": 9}, [])
        self.assertEqual(result({}, free, "a", hidden), (2, [(4, 0, 0, 100, 2)]))

    def test_point_76_a_shifted_box_stands_where_it_would_stand_in_the_flow(self):
        shifted = ({"place": "shifted", "left": 30, "top": -9, "height": 4}, [])
        self.assertEqual(result({}, "a", shifted, "b")[1], [(3, 0, 0, 100, 2), (4, 0, 2, 100, 4), (5, 0, 6, 100, 2)])

    def test_point_87_what_counts_for_nothing_for_the_root(self):
        page = styled_page(300, 300, "a b", ({}, []))
        for name in ("margin_left", "margin_top", "width", "height", "least_width", "left", "top"):
            page.set_own(1, name, 50)
        page.set_own(1, "most_width", 20)
        self.assertEqual(lay(page, computed(page), 1, 40, "auto"), (2, [(2, 0, 0, 40, 2), (3, 0, 2, 40, 0)]))
        page.set_own(1, "padding", 4)
        self.assertEqual(lay(page, computed(page), 1, 40, "auto"), (10, [(2, 4, 4, 32, 2), (3, 4, 6, 32, 0)]))
        self.assertEqual(lay(page, computed(page), 1, 40, 7)[0], 7)

    def test_point_3_new_lists_each_time(self):
        page = styled_page(300, 300, "a")
        styles = computed(page)
        lay(page, styles, 1, 10, "auto")[1].clear()
        self.assertEqual(lay(page, styles, 1, 10, "auto")[1], [(2, 0, 0, 10, 2)])


class Grids(unittest.TestCase):
    def check(self, more, sketch, expected, width=100):
        style = {"display": "grid", "size": 1, "columns": 2, **more}
        self.assertEqual(result(style, *sketch, width=width), expected)

    def test_point_84_without_flow_children(self):
        self.check({"columns": 5, "gap": 30}, [], (0, []))
        self.check({"padding": 2}, [({"display": "none"}, [])], (4, []))

    def test_point_84_row_by_row(self):
        # Both columns get (100 - 4 - 6) // 2 more than their wide measures of 4 and 2.
        self.check({}, ["a", "b", "cc"], (2, [(3, 0, 0, 51, 1), (4, 51, 0, 49, 1), (5, 0, 1, 51, 1)]))

    def test_point_84_gaps_and_the_frame(self):
        self.check({"gap": 6, "padding": 3}, ["aa", "b\nb", "cc"],
                   (3 + 2 + 6 + 1 + 3, [(3, 3, 3, 45, 1), (4, 54, 3, 43, 2), (5, 3, 11, 45, 1)]))

    def test_point_84_columns_without_children_take_room(self):
        self.check({"columns": 4, "gap": 2}, ["a b", "cc"], (1, [(3, 0, 0, 27, 1), (4, 29, 0, 26, 1)]), 101)

    def test_point_84_the_room_is_at_least_0(self):
        self.check({"columns": 10, "gap": 100}, ["a b", "cc"], (2, [(3, 0, 0, 2, 2), (4, 102, 0, 4, 1)]))
        self.check({"padding": 9}, ["a b", "cc"], (20, [(3, 9, 9, 2, 2), (4, 11, 9, 4, 1)]), 5)

    def test_point_84_a_room_between_the_measures(self):
        self.check({}, ["a b c", "d e"], (2, [(3, 0, 0, 6, 2), (4, 6, 0, 4, 2)]), 10)

    def test_point_84_children_have_the_width_of_their_column_without_margins(self):
        box = {"margin_left": 3, "margin_right": 4, "width": 9}
        self.check({"columns": 1}, [(box, [])], (0, [(3, 3, 0, 93, 0)]))
        self.check({"columns": 1}, [({**box, "least_width": 99, "most_width": 5}, [])], (0, [(3, 3, 0, 99, 0)]), 9)
        # The bounds of the child count for its measures alone.
        self.check({"columns": 1}, [({**box, "most_width": 5}, [])], (0, [(3, 3, 0, 93, 0)]))
        self.check({"columns": 1, "padding": 3}, [({**box, "width": 0, "border": 2}, [])], (10, [(3, 6, 3, 4, 4)]), 0)

    def test_point_84_margins_above_and_below_do_not_meet(self):
        box = {"height": 5, "margin_top": 3, "margin_bottom": 4}
        self.check({"columns": 1, "gap": 1}, [(box, []), (box, [])], (25, [(3, 0, 3, 100, 5), (4, 0, 16, 100, 5)]))

    def test_point_84_the_highest_child_counts_for_its_row_alone(self):
        low, high = ({"height": 2, "margin_top": 1}, []), ({"height": 2, "margin_top": 4, "margin_bottom": 3}, [])
        self.check({}, [high, low, low, low], (12, [(3, 0, 4, 50, 2), (4, 50, 1, 50, 2), (5, 0, 10, 50, 2),
                                                    (6, 50, 10, 50, 2)]))

    def test_point_84_children_are_not_stretched(self):
        self.check({"height": 50}, [({}, []), "a\nb"], (50, [(3, 0, 0, 49, 0), (4, 49, 0, 51, 2)]))

    def test_point_84_free_and_hidden_children_take_no_cell(self):
        sketch = ["a", ({"display": "none"}, []), "b", ({"place": "free", "width": 1}, []), "c"]
        found = result({"display": "grid", "size": 1}, *sketch, width=10)
        self.assertEqual(found[1][:3], [(3, 0, 0, 5, 1), (5, 5, 0, 5, 1), (7, 0, 1, 5, 1)])

    def test_point_84_a_grid_in_a_grid(self):
        inner = ({"display": "grid", "columns": 1, "padding": 1}, ["ab", "cd"])
        self.check({}, [inner, "e"], (4, [(3, 0, 0, 52, 4), (6, 52, 0, 48, 1)]))


if __name__ == "__main__":
    unittest.main()
