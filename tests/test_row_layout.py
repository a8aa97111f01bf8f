"""Points 80 and 83: rows: bases, places, second layouts."""

import unittest

from quirekiln.layout import lay, needed
from quirekiln.styles import computed
from layouts import styled_page


def result(more, *sketch, width=100, height="auto"):
    """The result of a task of the row 2 with this inside."""
    page = styled_page(300, 300, ({"display": "row", "size": 1, **more}, sketch))
    return lay(page, computed(page), 2, width, height)


def box(**style):
    """A box without anything inside."""
    return (style, [])


class Bases(unittest.TestCase):
    def widths(self, more, *sketch, width=100):
        return [place[3] for place in result(more, *sketch, width=width)[1]]

    def test_point_80_wide_measures_of_texts_and_of_automatic_widths(self):
        self.assertEqual(self.widths({}, "ab cd", ({"padding": 2}, ["e f"]), box()), [9, 9, 0])

    def test_point_80_numbers_and_parts(self):
        self.assertEqual(self.widths({}, box(width=30), box(width=("part", 33)), width=101), [30, 33])
        self.assertEqual(self.widths({"padding": 1}, box(width=("part", 33)), width=102), [33])
        self.assertEqual(self.widths({}, box(width=30, most_width=9), box(width=0, border=3)), [9, 6])
        self.assertEqual(self.widths({}, box(width=("part", 50), least_width=60)), [60])

    def test_point_80_what_is_free_just_0(self):
        sketch = [box(width=30, grow=1), box(width=70, grow=5)]
        self.assertEqual(self.widths({}, *sketch), [30, 70])

    def test_point_80_growing(self):
        self.assertEqual(self.widths({}, box(width=30, grow=1), box(width=10), box(width=20, grow=3)), [40, 10, 50])
        self.assertEqual(self.widths({}, box(width=30), box(width=20)), [30, 20])
        self.assertEqual(self.widths({}, "ab", box(grow=1)), [4, 96])

    def test_point_80_one_unit_that_is_free_or_missing(self):
        self.assertEqual(self.widths({}, box(width=30, grow=1), box(width=69)), [31, 69])
        self.assertEqual(self.widths({}, box(width=30), box(width=71)), [29, 71])

    def test_point_80_margins_and_gaps_take_from_what_is_free(self):
        sketch = [box(width=20, grow=1, margin_left=3), box(width=20, margin_right=4), box(width=20)]
        self.assertEqual(self.widths({"gap": 5, "padding": 2}, *sketch), [20 + 36 - 17, 20, 20])

    def test_point_81_the_limit_of_growing(self):
        self.assertEqual(self.widths({}, box(grow=1, most_width=30), box(grow=1)), [30, 70])
        self.assertEqual(self.widths({}, box(grow=1, most_width=30, least_width=40), box(grow=1)), [40, 60])
        self.assertEqual(self.widths({}, box(grow=1, most_width=30, padding=22), box(grow=1)), [44, 56])
        self.assertEqual(self.widths({}, box(grow=1, most_width=30)), [30])

    def test_point_82_shrinking(self):
        self.assertEqual(self.widths({}, box(width=80), box(width=40)), [66, 34])
        self.assertEqual(self.widths({}, box(width=80, shrink=0), box(width=40)), [80, 20])
        self.assertEqual(self.widths({}, box(width=80, shrink=0), box(width=40, shrink=0)), [80, 40])
        self.assertEqual(self.widths({}, box(width=80, least_width=75), box(width=40)), [75, 25])
        self.assertEqual(self.widths({}, box(width=80, padding=39), box(width=40, border=12)), [78, 24])

    def test_point_75_texts_shrink_by_1_and_down_to_0(self):
        self.assertEqual(self.widths({}, "abcde abcde", box(width=21), width=31), [15, 16])
        self.assertEqual(self.widths({}, "abcde", "abcde", width=0), [0, 0])
        self.assertEqual(self.widths({}, "abcde", width=500), [10])

    def test_point_80_an_inner_width_of_0(self):
        self.assertEqual(self.widths({"padding": 5}, box(width=7), box(width=7, shrink=0), width=8), [0, 7])


class Places(unittest.TestCase):
    def test_point_83_without_flow_children(self):
        self.assertEqual(result({}), (0, []))
        self.assertEqual(result({"padding": 3, "gap": 9}, box(display="none")), (6, []))

    def test_point_83_beside_one_another(self):
        found = result({"gap": 5, "padding": 3}, box(width=10, height=7, margin_left=1, margin_right=2, margin_top=4),
                       "ab", box(width=10, height=3, margin_left=6, margin_bottom=9))
        self.assertEqual(found, (18, [(3, 4, 7, 10, 7), (4, 21, 3, 4, 1), (5, 36, 3, 10, 3)]))

    def test_point_83_free_hidden_and_shifted_children(self):
        hidden, free = box(width=10, height=1, display="none"), box(width=10, height=99, place="free")
        found = result({"gap": 5}, hidden, "a", box(width=9, height=1, place="shifted", left=7), free, "b")
        self.assertEqual(found[0], 1)
        self.assertEqual(found[1][:3], [(4, 0, 0, 2, 1), (5, 7, 0, 9, 1), (7, 21, 0, 2, 1)])


class SecondLayouts(unittest.TestCase):
    def test_point_83_boxes_with_automatic_heights_are_stretched(self):
        sketch = [box(width=5, height=20), box(width=5), "a", box(width=5, margin_top=3, margin_bottom=4)]
        found = result({"padding": 2}, *sketch)
        self.assertEqual(found, (24, [(3, 2, 2, 5, 20), (4, 7, 2, 5, 20), (5, 12, 2, 2, 1), (6, 14, 5, 5, 13)]))

    def test_point_83_the_height_of_the_row_counts(self):
        self.assertEqual(result({"height": 30, "padding": 1}, box(width=5)), (30, [(3, 1, 1, 5, 28)]))
        self.assertEqual(result({"height": 30}, box(width=5), height=12), (12, [(3, 0, 0, 5, 12)]))
        # Also where the row is lower than its content.
        self.assertEqual(result({"height": 2}, ({}, ["a\nb\nc"])), (2, [(3, 0, 0, 2, 2)]))

    def test_point_83_at_least_twice_the_frame(self):
        self.assertEqual(result({"height": 3}, box(width=5, border=2, padding=1)), (3, [(3, 0, 0, 6, 6)]))
        self.assertEqual(result({"height": 3}, box(width=5, margin_top=50)), (3, [(3, 0, 50, 5, 0)]))

    def tasks(self, more, *sketch):
        page = styled_page(100, 100, ({"display": "row", "size": 1, **more}, sketch))
        return needed(page, computed(page))

    def test_point_83_no_second_layout_of_a_box_that_has_its_height(self):
        self.assertEqual(self.tasks({}, ({}, ["a"]), ({}, ["b"])), [
            (4, 2, "auto"), (3, 2, "auto"), (6, 2, "auto"), (5, 2, "auto"), (2, 100, "auto"), (1, 100, "auto"),
        ])

    def test_point_83_all_first_layouts_before_the_second_ones(self):
        self.assertEqual(self.tasks({}, ({}, ["a"]), box(width=1, height=9), ({}, ["b"])), [
            (4, 2, "auto"), (3, 2, "auto"), (5, 1, "auto"), (7, 2, "auto"), (6, 2, "auto"), (3, 2, 9), (6, 2, 9),
            (2, 100, "auto"), (1, 100, "auto"),
        ])

    def test_point_83_texts_and_boxes_with_a_height_are_not_laid_out_again(self):
        self.assertEqual(self.tasks({"height": 40}, "a", box(width=3, height=4)), [
            (3, 2, "auto"), (4, 3, "auto"), (2, 100, "auto"), (1, 100, "auto"),
        ])

    def test_point_83_what_is_inside_a_stretched_box(self):
        # The stretched row stretches its own children, and not the children of a block in it.
        row = ({"display": "row"}, [({}, [box(width=3)])])
        page = styled_page(100, 100, ({"display": "row", "height": 40}, [row]))
        styles = computed(page)
        self.assertEqual(needed(page, styles), [
            (5, 3, "auto"), (4, 3, "auto"), (3, 3, "auto"), (4, 3, 40), (3, 3, 40), (2, 100, "auto"), (1, 100, "auto"),
        ])
        self.assertEqual(lay(page, styles, 3, 3, 40), (40, [(4, 0, 0, 3, 40)]))
        self.assertEqual(lay(page, styles, 4, 3, 40), (40, [(5, 0, 0, 3, 0)]))


if __name__ == "__main__":
    unittest.main()
