"""Points 70 to 73: frames, bounded widths, flow children, measures."""

import copy
import time
import unittest

from quirekiln.measures import bounded, column_measures, flow_children, frame, narrow, wide
from quirekiln.page import Page
from quirekiln.properties import first_value, property_names
from quirekiln.styles import computed
from layouts import Model, random_trees, styled_page

FIRST = {name: first_value(name) for name in property_names()}


def measures(page, node):
    """Both measures of a node."""
    styles = computed(page)
    return (narrow(page, styles, node), wide(page, styles, node))


def measures_of(style, *sketch):
    """Both measures of the box 2 with this style and this inside."""
    return measures(styled_page(100, 100, (style, sketch)), 2)


class Widths(unittest.TestCase):
    def test_point_70_the_frame_of_a_box(self):
        self.assertEqual(frame(FIRST), 0)
        self.assertEqual(frame({**FIRST, "border": 3, "padding": 4}), 7)
        self.assertEqual(frame({**FIRST, "border": 3}), 3)
        self.assertEqual(frame({**FIRST, "padding": 4}), 4)

    def test_point_71_around_most_width(self):
        style = {**FIRST, "most_width": 50}
        told = [bounded(style, width) for width in (0, 49, 50, 51, 10 ** 9)]
        self.assertEqual(told, [0, 49, 50, 50, 50])

    def test_point_71_around_least_width(self):
        style = {**FIRST, "least_width": 50}
        told = [bounded(style, width) for width in (-7, 0, 49, 50, 51, 1000, 1001)]
        self.assertEqual(told, [50, 50, 50, 50, 51, 1000, 1000])

    def test_point_71_around_twice_the_frame(self):
        style = {**FIRST, "border": 2, "padding": 3}
        self.assertEqual([bounded(style, width) for width in (-1, 0, 9, 10, 11)], [10, 10, 10, 10, 11])

    def test_point_71_least_width_and_the_frame_win_over_most_width(self):
        self.assertEqual(bounded({**FIRST, "most_width": 5, "least_width": 8}, 100), 8)
        self.assertEqual(bounded({**FIRST, "most_width": 5, "padding": 4}, 100), 8)
        self.assertEqual(bounded({**FIRST, "most_width": 5, "padding": 4, "least_width": 9}, 100), 9)
        self.assertEqual(bounded({**FIRST, "most_width": 0}, 100), 0)

    def test_point_71_negative_widths(self):
        self.assertEqual(bounded(FIRST, -1), 0)
        self.assertEqual(bounded(FIRST, -10 ** 9), 0)

    def test_point_71_a_bounded_width_stays_as_it_is(self):
        for most in (0, 5, 9, 1000):
            for least in (0, 6, 9):
                for border in (0, 3, 5):
                    style = {**FIRST, "most_width": most, "least_width": least, "border": border}
                    before = dict(style)
                    for width in range(-3, 15):
                        once = bounded(style, width)
                        self.assertEqual(bounded(style, once), once)
                    self.assertEqual(style, before)


class FlowChildren(unittest.TestCase):
    def test_point_70_texts_and_boxes_in_order(self):
        page = styled_page(
            9, 9, "x", ({}, []), ({"display": "none"}, []), ({"place": "free"}, []), ({"place": "shifted"}, []), "y",
            ({"display": "none", "place": "shifted"}, []), ({"display": "row"}, []),
        )
        self.assertEqual(flow_children(page, computed(page), 1), [2, 3, 6, 7, 9])

    def test_point_70_a_text_and_an_empty_box_have_none(self):
        page = styled_page(9, 9, "x", ({}, []))
        self.assertEqual(flow_children(page, computed(page), 2), [])
        self.assertEqual(flow_children(page, computed(page), 3), [])

    def test_point_70_no_further_down(self):
        page = styled_page(9, 9, ({}, ["x"]))
        self.assertEqual(flow_children(page, computed(page), 1), [2])

    def test_point_3_a_new_list_each_time(self):
        page = styled_page(9, 9, "x")
        flow_children(page, computed(page), 1).append(7)
        self.assertEqual(flow_children(page, computed(page), 1), [2])


class Texts(unittest.TestCase):
    def check(self, string, size, expected):
        page = styled_page(9, 9, ({"size": size}, [string]))
        self.assertEqual(measures(page, 3), expected, string)

    def test_point_72_texts_without_words(self):
        for string in ["", " ", "    ", "\n", " \n  \n"]:
            self.check(string, 2, (0, 0))

    def test_point_72_the_widest_word_and_the_widest_paragraph(self):
        self.check("abc", 1, (6, 6))
        self.check("abc", 3, (18, 18))
        self.check("ab cde f", 1, (6, 14))
        self.check("wide iii", 1, (8, 12))
        self.check("iiii mm", 1, (6, 11))

    def test_point_72_several_paragraphs(self):
        self.check("ab\ncdef\ng h", 1, (8, 8))
        self.check("ab cd\n\nefg", 1, (6, 9))
        self.check("\nab cd\n", 2, (8, 18))

    def test_point_72_spaces_at_the_ends_of_a_paragraph_do_not_count(self):
        self.check("   ab  ", 1, (4, 4))
        self.check("  ab   cd  \n ef ", 1, (4, 11))


class Boxes(unittest.TestCase):
    def test_point_72_a_number_as_width(self):
        self.assertEqual(measures_of({"width": 30}, "abcdefghijklmno"), (30, 30))
        self.assertEqual(measures_of({"width": 30, "most_width": 20}), (20, 20))
        self.assertEqual(measures_of({"width": 30, "least_width": 40}), (40, 40))
        self.assertEqual(measures_of({"width": 3, "border": 2, "padding": 1}), (6, 6))
        self.assertEqual(measures_of({"width": 0}), (0, 0))

    def test_point_72_a_part_counts_as_auto(self):
        for width in ("auto", ("part", 0), ("part", 50)):
            self.assertEqual(measures_of({"width": width, "size": 1}, "ab cd"), (4, 9))

    def test_point_72_the_frame_and_the_bounds(self):
        style = {"size": 1, "border": 1, "padding": 2}
        self.assertEqual(measures_of(style, "ab cd"), (10, 15))
        self.assertEqual(measures_of({**style, "most_width": 12}, "ab cd"), (10, 12))
        self.assertEqual(measures_of({**style, "least_width": 12}, "ab cd"), (12, 15))
        self.assertEqual(measures_of({**style, "least_width": 30}, "ab cd"), (30, 30))
        self.assertEqual(measures_of({**style, "most_width": 0}, "ab cd"), (6, 6))

    def test_point_72_blocks(self):
        self.assertEqual(measures_of({"size": 1}), (0, 0))
        self.assertEqual(measures_of({"size": 1}, "ab cd"), (4, 9))
        # Narrow and wide may come from different children.
        self.assertEqual(measures_of({"size": 1}, "a b c d e", "abcd"), (8, 14))
        child = ({"width": 5, "margin_left": 2, "margin_right": 4}, [])
        self.assertEqual(measures_of({"size": 1}, "ab", child), (11, 11))

    def test_point_72_rows(self):
        style = {"display": "row", "size": 1, "gap": 3}
        self.assertEqual(measures_of(style), (0, 0))
        self.assertEqual(measures_of(style, "ab cd"), (4, 9))
        self.assertEqual(measures_of(style, "ab cd", "e"), (4 + 3 + 2, 9 + 3 + 2))
        child = ({"width": 5, "margin_left": 2, "margin_right": 4}, [])
        self.assertEqual(measures_of(style, "ab", child, "c"), (4 + 3 + 11 + 3 + 2,) * 2)

    def test_point_72_grids_with_more_columns_than_children(self):
        style = {"display": "grid", "size": 1, "gap": 3, "columns": 4}
        self.assertEqual(measures_of(style), (9, 9))
        self.assertEqual(measures_of(style, "ab cd"), (4 + 9, 9 + 9))
        self.assertEqual(measures_of({**style, "gap": 0}), (0, 0))
        self.assertEqual(measures_of({**style, "columns": 1}), (0, 0))

    def test_point_72_free_and_hidden_children_do_not_count_but_shifted_ones_do(self):
        big = {"width": 90}
        for display in ("block", "row", "grid"):
            style = {"display": display, "size": 1, "columns": 2, "gap": 1}
            none = measures_of(style, "ab")
            self.assertEqual(measures_of(style, ({**big, "place": "free"}, []), "ab"), none)
            self.assertEqual(measures_of(style, ({**big, "display": "none"}, []), "ab"), none)
            self.assertNotEqual(measures_of(style, ({**big, "place": "shifted"}, []), "ab"), none)
        self.assertEqual(measures_of({}, ({**big, "place": "shifted", "left": 50}, [])), (90, 90))

    def test_point_72_trees_within_trees(self):
        # A row of: a block with a frame (2 * 2) of "ab cd" (4, 9), and a grid of two columns.
        grid = ({"display": "grid", "columns": 2, "gap": 1}, ["a b", "abc", "w", "c"])
        block = ({"padding": 2, "margin_left": 1}, ["ab cd"])
        expected_grid = (3 + 6 + 1, 5 + 6 + 1)
        style = {"display": "row", "gap": 5, "size": 1, "margin_left": 50}
        self.assertEqual(measures_of(style, block, grid), (1 + 8 + 5 + expected_grid[0], 1 + 13 + 5 + expected_grid[1]))

    def test_point_72_the_root_and_free_boxes_have_measures_too(self):
        page = styled_page(9, 9, ({"place": "free", "padding": 1}, ["ab"]), "cde")
        page.set_own(1, "size", 1)
        self.assertEqual(measures(page, 1), (6, 6))
        self.assertEqual(measures(page, 2), (6, 6))
        page.set_own(1, "width", 77)
        self.assertEqual(measures(page, 1), (77, 77))

    def test_point_72_any_styles_and_not_only_the_computed_ones(self):
        page = styled_page(9, 9, ({}, ["ab cd", ({}, ["e"])]))
        styles = computed(page)
        styles[1] = {**FIRST, "display": "row", "place": "free", "gap": 2}
        styles[2] = {**FIRST, "display": "row", "gap": 4, "border": 1}
        styles[3]["size"] = 5
        styles[4]["margin_left"] = 7
        styles[5]["size"] = 1
        before = copy.deepcopy(styles)
        self.assertEqual(narrow(page, styles, 2), 20 + 4 + 9 + 2)
        self.assertEqual(wide(page, styles, 2), 45 + 4 + 9 + 2)
        self.assertEqual(wide(page, styles, 1), 60)
        styles[2]["display"] = "grid"
        self.assertEqual(column_measures(page, styles, 2), [(20, 45), (9, 9)])
        styles[2]["display"] = "row"
        self.assertEqual(styles, before)


class Columns(unittest.TestCase):
    def columns(self, many, *sketch):
        page = styled_page(100, 100, ({"display": "grid", "columns": many, "size": 1, "gap": 50}, sketch))
        return column_measures(page, computed(page), 2)

    def test_point_73_children_are_dealt_out_in_order(self):
        self.assertEqual(self.columns(2, "a", "bb", "ccc", "d", "e f"), [(6, 6), (4, 4)])
        self.assertEqual(self.columns(3, "a", "bb", "ccc", "d", "e f"), [(2, 2), (4, 5), (6, 6)])
        self.assertEqual(self.columns(1, "a", "bb", "c d"), [(4, 5)])

    def test_point_73_columns_without_children(self):
        self.assertEqual(self.columns(3), [(0, 0)] * 3)
        self.assertEqual(self.columns(4, "a b", "c"), [(2, 5), (2, 2), (0, 0), (0, 0)])

    def test_point_73_narrow_and_wide_of_different_children(self):
        self.assertEqual(self.columns(1, "abc", "a b c"), [(6, 8)])

    def test_point_73_margins_count_and_free_and_hidden_children_do_not(self):
        sketch = [
            ({"width": 5, "margin_left": 1, "margin_right": 2}, []), ({"width": 90, "place": "free"}, []),
            ({"width": 7, "place": "shifted"}, []), ({"width": 90, "display": "none"}, []), "abc",
        ]
        self.assertEqual(self.columns(2, *sketch), [(8, 8), (7, 7)])

    def test_point_3_a_new_list_each_time(self):
        page = styled_page(9, 9, ({"display": "grid"}, ["ab"]))
        styles = computed(page)
        column_measures(page, styles, 2).clear()
        self.assertEqual(len(column_measures(page, styles, 2)), 2)


class Trees(unittest.TestCase):
    def test_points_72_and_73_against_the_model(self):
        for page in random_trees(60, 40, seed=7):
            styles = computed(page)
            before, value = copy.deepcopy(styles), page.snapshot()
            model = Model(page, styles)
            for node in page.nodes():
                if styles[node].get("display") == "none":
                    continue
                self.assertEqual(narrow(page, styles, node), model.measure(node, "narrow"))
                self.assertEqual(wide(page, styles, node), model.measure(node, "wide"))
                if styles[node].get("display") == "grid":
                    pairs = list(zip(model.columns(node, "narrow"), model.columns(node, "wide")))
                    self.assertEqual(column_measures(page, styles, node), pairs)
            self.assertEqual((styles, page.snapshot()), (before, value))

    def test_trees_as_deep_as_a_page_allows(self):
        for display in ("grid", "row", "block"):
            page = Page(100, 100)
            for depth in range(1, 29):
                page.insert_box(depth, 0, "a")
                page.set_own(depth + 1, "display", display)
            page.insert_text(29, 0, "ab cd")
            page.set_rules([("*", {"columns": 1, "size": 1, "border": 1, "margin_left": 1})])
            styles = computed(page)
            start = time.process_time()
            for _ in range(10):
                self.assertEqual(narrow(page, styles, 2), 4 + 28 * 2 + 27)
                self.assertEqual(wide(page, styles, 2), 9 + 28 * 2 + 27)
            self.assertLess(time.process_time() - start, 2)


if __name__ == "__main__":
    unittest.main()
