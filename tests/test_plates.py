"""Points 3, 5, 10 and 11: rectangles."""

import unittest
from itertools import product

from helper import FAR, cells_of, small_rects, some_lists
from quirekiln.plates import bounding, has_cell, intersect, is_empty, shift

NOTHING = (0, 0, 0, 0)


class IsEmpty(unittest.TestCase):
    def test_point_10_a_rectangle_with_cells_is_not_empty(self):
        for rect in [(0, 0, 1, 1), (-5, -7, 3, 1), (2, 3, 1, 9), (-FAR, FAR, FAR, FAR)]:
            self.assertIs(is_empty(rect), False, rect)

    def test_point_10_no_width_or_no_height_is_empty(self):
        for rect in [(0, 0, 0, 0), (3, 4, 0, 5), (3, 4, 5, 0), (-FAR, FAR, FAR, 0), (-1, -1, 0, FAR)]:
            self.assertIs(is_empty(rect), True, rect)

    def test_point_10_empty_means_that_no_cell_is_covered(self):
        for rect in small_rects():
            self.assertIs(is_empty(rect), not cells_of([rect]), rect)


class HasCell(unittest.TestCase):
    def test_point_10_cells_next_to_each_edge(self):
        rect = (2, 3, 4, 5)
        for px, py in [(2, 3), (5, 3), (2, 7), (5, 7), (3, 5)]:
            self.assertIs(has_cell(rect, px, py), True, (px, py))
        for px, py in [(1, 3), (2, 2), (6, 3), (5, 2), (1, 7), (2, 8), (6, 7), (5, 8), (6, 8)]:
            self.assertIs(has_cell(rect, px, py), False, (px, py))

    def test_point_5_x_counts_to_the_right_and_y_downwards(self):
        self.assertIs(has_cell((0, 0, 3, 1), 2, 0), True)
        self.assertIs(has_cell((0, 0, 3, 1), 0, 2), False)
        self.assertIs(has_cell((0, 0, 1, 3), 0, 2), True)

    def test_point_10_every_cell_around_small_rectangles(self):
        for rect in small_rects():
            cells = cells_of([rect])
            for px, py in product(range(-3, 5), repeat=2):
                self.assertIs(has_cell(rect, px, py), (px, py) in cells, (rect, px, py))

    def test_point_10_an_empty_rectangle_has_no_cell(self):
        for rect in [(0, 0, 0, 0), (0, 0, 0, 5), (0, 0, 5, 0)]:
            self.assertIs(has_cell(rect, 0, 0), False, rect)

    def test_point_10_large_and_negative_coordinates(self):
        rect = (-FAR, -FAR ** 2, 2 * FAR, FAR ** 2)
        self.assertIs(has_cell(rect, -FAR, -FAR ** 2), True)
        self.assertIs(has_cell(rect, FAR - 1, -1), True)
        self.assertIs(has_cell(rect, FAR, -1), False)
        self.assertIs(has_cell(rect, FAR - 1, 0), False)
        self.assertIs(has_cell(rect, -FAR - 1, -1), False)


class Intersect(unittest.TestCase):
    def test_point_11_overlap(self):
        self.assertEqual(intersect((0, 0, 4, 4), (2, 1, 5, 2)), (2, 1, 2, 2))
        self.assertEqual(intersect((-5, -5, 4, 3), (-4, -6, 9, 2)), (-4, -5, 3, 1))

    def test_point_11_one_inside_the_other_and_the_same_twice(self):
        self.assertEqual(intersect((0, 0, 9, 9), (3, 4, 2, 1)), (3, 4, 2, 1))
        self.assertEqual(intersect((3, 4, 2, 1), (3, 4, 2, 1)), (3, 4, 2, 1))

    def test_point_11_touching_rectangles_have_no_cell_in_common(self):
        for other in [(4, 3, 2, 2), (0, 3, 2, 2), (2, 5, 2, 2), (2, 1, 2, 2), (4, 5, 2, 2)]:
            self.assertEqual(intersect((2, 3, 2, 2), other), NOTHING, other)
            self.assertEqual(intersect(other, (2, 3, 2, 2)), NOTHING, other)

    def test_point_11_apart_and_empty(self):
        self.assertEqual(intersect((0, 0, 2, 2), (50, -60, 2, 2)), NOTHING)
        self.assertEqual(intersect((0, 0, 9, 9), (3, 3, 0, 4)), NOTHING)
        self.assertEqual(intersect((3, 3, 4, 0), (0, 0, 9, 9)), NOTHING)
        self.assertEqual(intersect((7, 8, 0, 0), (7, 8, 0, 0)), NOTHING)

    def test_point_11_large_coordinates(self):
        self.assertEqual(
            intersect((-FAR, -FAR, 2 * FAR, 2 * FAR), (FAR - 1, -5 * FAR, FAR, 9 * FAR)),
            (FAR - 1, -FAR, 1, 2 * FAR),
        )

    def test_point_11_all_pairs_of_small_rectangles(self):
        for first, second in product(small_rects(), repeat=2):
            common = intersect(first, second)
            self.assertEqual(cells_of([common]), cells_of([first]) & cells_of([second]))
            self.assertIs(isinstance(common, tuple), True)
            if not cells_of([common]):
                self.assertEqual(common, NOTHING)


class Bounding(unittest.TestCase):
    def test_point_11_several_rectangles_in_any_order(self):
        rects = [(4, 5, 1, 1), (-2, 7, 3, 2), (0, -3, 2, 1)]
        self.assertEqual(bounding(rects), (-2, -3, 7, 12))
        self.assertEqual(bounding(rects[::-1]), (-2, -3, 7, 12))

    def test_point_11_one_rectangle_also_twice(self):
        self.assertEqual(bounding([(3, -4, 5, 6)]), (3, -4, 5, 6))
        self.assertEqual(bounding([(3, -4, 5, 6)] * 2), (3, -4, 5, 6))

    def test_point_11_empty_rectangles_do_not_count(self):
        far = [(FAR, FAR, 0, 9), (-FAR, -FAR, 9, 0), (0, 0, 0, 0)]
        self.assertEqual(bounding(far + [(2, 3, 1, 1)] + far), (2, 3, 1, 1))

    def test_point_11_no_cell_at_all(self):
        self.assertEqual(bounding([]), NOTHING)
        self.assertEqual(bounding([(5, 6, 0, 7), (-8, 9, 4, 0)]), NOTHING)

    def test_point_11_large_coordinates(self):
        self.assertEqual(
            bounding([(-FAR, 0, 1, 1), (FAR, -FAR ** 2, 1, 1)]),
            (-FAR, -FAR ** 2, 2 * FAR + 1, FAR ** 2 + 1),
        )

    def test_point_11_it_covers_all_cells_and_each_of_its_sides_has_one(self):
        for rects in some_lists(200, 5):
            cells = cells_of(rects)
            x, y, w, h = bounding(rects)
            columns = [px for px, py in cells]
            rows = [py for px, py in cells]
            if cells:
                self.assertEqual((x, x + w - 1), (min(columns), max(columns)), rects)
                self.assertEqual((y, y + h - 1), (min(rows), max(rows)), rects)
            else:
                self.assertEqual((x, y, w, h), NOTHING, rects)


class Shift(unittest.TestCase):
    def test_point_11_right_down_left_up(self):
        self.assertEqual(shift((2, 3, 4, 5), 1, 0), (3, 3, 4, 5))
        self.assertEqual(shift((2, 3, 4, 5), 0, 1), (2, 4, 4, 5))
        self.assertEqual(shift((2, 3, 4, 5), -10, -20), (-8, -17, 4, 5))
        self.assertEqual(shift((2, 3, 4, 5), 0, 0), (2, 3, 4, 5))

    def test_point_11_an_empty_rectangle_keeps_its_width_and_height(self):
        self.assertEqual(shift((2, 3, 0, 5), 7, -8), (9, -5, 0, 5))
        self.assertEqual(shift((2, 3, 4, 0), 7, -8), (9, -5, 4, 0))
        self.assertEqual(shift((0, 0, 0, 0), 7, -8), (7, -8, 0, 0))

    def test_point_11_large_amounts(self):
        self.assertEqual(shift((-FAR, 1, 2, 3), 3 * FAR, -FAR ** 2), (2 * FAR, 1 - FAR ** 2, 2, 3))


class Arguments(unittest.TestCase):
    def test_point_3_the_list_is_not_changed_and_may_be_changed_later(self):
        rects = [(0, 0, 1, 1), (5, 5, 0, 0), (2, 2, 2, 2)]
        kept = list(rects)
        found = bounding(rects)
        self.assertEqual(rects, kept)
        rects.clear()
        self.assertEqual(found, (0, 0, 4, 4))
        self.assertEqual(bounding(kept), (0, 0, 4, 4))


if __name__ == "__main__":
    unittest.main()
