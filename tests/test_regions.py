"""Points 3, 5 and 12 to 16: regions."""

import inspect
import unittest
from itertools import permutations, product

from helper import FAR, bands_of, cells_of, enlarge, region_of, small_rects, some_lists
from quirekiln.regions import area, bands, cut, has, join, minus, region

EXAMPLE = [(0, 0, 2, 2), (1, 1, 2, 2)]
EXAMPLE_REGION = [(0, 0, 2, 1), (0, 1, 3, 1), (1, 2, 2, 1)]


def dozens_of_far_rects():
    """Sixty large rectangles: long beams across each other, repeated, and empty ones far away."""
    beams = [(-FAR, k * FAR, 30 * FAR, FAR // 2) for k in range(20)]
    posts = [(k * FAR, -FAR, FAR // 3, 30 * FAR) for k in range(20)]
    return beams[::-1] + posts + beams[:10] + [(k * FAR ** 2, -FAR, 0, FAR) for k in range(10)]


class Region(unittest.TestCase):
    def test_point_12_the_example(self):
        self.assertEqual(region(EXAMPLE), EXAMPLE_REGION)

    def test_point_12_nothing(self):
        for rects in [[], [(0, 0, 0, 0)], [(3, 4, 0, 5), (-FAR, FAR, 6, 0)]]:
            self.assertEqual(region(rects), [], rects)

    def test_point_12_one_rectangle_also_twice(self):
        self.assertEqual(region([(-3, 4, 5, 6)]), [(-3, 4, 5, 6)])
        self.assertEqual(region([(-3, 4, 5, 6)] * 3), [(-3, 4, 5, 6)])

    def test_point_12_touching_rectangles_become_one_run(self):
        self.assertEqual(region([(2, 0, 3, 2), (0, 0, 2, 2)]), [(0, 0, 5, 2)])

    def test_point_12_equal_rows_become_one_band(self):
        self.assertEqual(region([(0, 2, 2, 5), (0, 0, 2, 2)]), [(0, 0, 2, 7)])
        self.assertEqual(
            region([(0, 0, 1, 1), (0, 1, 1, 2), (5, 0, 1, 2), (5, 2, 1, 1)]),
            [(0, 0, 1, 3), (5, 0, 1, 3)],
        )

    def test_point_12_other_rows_stay_apart(self):
        self.assertEqual(region([(0, 2, 3, 2), (0, 0, 2, 2)]), [(0, 0, 2, 2), (0, 2, 3, 2)])
        self.assertEqual(region([(0, 0, 2, 2), (0, 3, 2, 2)]), [(0, 0, 2, 2), (0, 3, 2, 2)])
        self.assertEqual(region([(0, 0, 2, 2), (2, 2, 2, 2)]), [(0, 0, 2, 2), (2, 2, 2, 2)])

    def test_point_12_a_neighbour_divides_a_rectangle_into_bands(self):
        self.assertEqual(
            region([(0, 0, 1, 9), (3, 4, 1, 1)]),
            [(0, 0, 1, 4), (0, 4, 1, 1), (3, 4, 1, 1), (0, 5, 1, 4)],
        )

    def test_point_13_empty_rectangles_divide_nothing(self):
        self.assertEqual(region([(0, 0, 4, 4), (2, 2, 0, 1), (1, 1, 2, 0)]), [(0, 0, 4, 4)])

    def test_point_13_any_order(self):
        rects = EXAMPLE + [(1, 1, 2, 2), (8, 1, 0, 3), (3, 1, 1, 1)]
        for order in permutations(rects):
            self.assertEqual(region(list(order)), region_of(cells_of(rects)), order)

    def test_point_12_all_pairs_of_small_rectangles(self):
        for pair in product(small_rects(), repeat=2):
            self.assertEqual(region(list(pair)), region_of(cells_of(pair)), pair)

    def test_point_12_many_lists(self):
        for rects in some_lists(300, 9):
            found = region(rects)
            self.assertEqual(found, region_of(cells_of(rects)), rects)
            self.assertEqual(region(found), found, rects)

    def test_point_12_large_coordinates_have_the_same_shape(self):
        for rects in some_lists(50, 40, seed=2):
            far = enlarge(rects, FAR, -FAR ** 2, 7 * FAR)
            expected = enlarge(region_of(cells_of(rects)), FAR, -FAR ** 2, 7 * FAR)
            self.assertEqual(region(far), expected)

    def test_point_13_dozens_of_large_rectangles(self):
        found = region(dozens_of_far_rects())
        # Twenty beams with a strip of posts above and below each of them.
        self.assertEqual(len(found), 20 + 21 * 20)
        self.assertEqual(found[0], (0, -FAR, FAR // 3, FAR))
        self.assertEqual(found[20], (-FAR, 0, 30 * FAR, FAR // 2))
        self.assertEqual(found[-1], (19 * FAR, 19 * FAR + FAR // 2, FAR // 3, 9 * FAR + FAR // 2))


class Bands(unittest.TestCase):
    def test_point_15_it_is_a_generator(self):
        self.assertIs(inspect.isgeneratorfunction(bands), True)
        self.assertIs(inspect.isgenerator(bands(EXAMPLE)), True)

    def test_point_15_the_example(self):
        self.assertEqual(
            list(bands(EXAMPLE)), [(0, 1, [(0, 2)]), (1, 2, [(0, 3)]), (2, 3, [(1, 3)])]
        )

    def test_point_15_several_runs_from_the_left(self):
        self.assertEqual(
            list(bands([(5, -1, 2, 3), (-4, -1, 1, 3), (0, -1, 2, 3), (2, -1, 1, 3)])),
            [(-1, 2, [(-4, -3), (0, 3), (5, 7)])],
        )

    def test_point_15_bands_below_one_another(self):
        self.assertEqual(list(bands([(0, 0, 2, 1), (0, 1, 2, 1)])), [(0, 2, [(0, 2)])])
        self.assertEqual(
            list(bands([(0, 0, 2, 1), (0, 1, 3, 1)])), [(0, 1, [(0, 2)]), (1, 2, [(0, 3)])]
        )
        self.assertEqual(
            list(bands([(0, 0, 2, 1), (0, 2, 2, 1)])), [(0, 1, [(0, 2)]), (2, 3, [(0, 2)])]
        )

    def test_point_15_nothing(self):
        self.assertEqual(list(bands([])), [])
        self.assertEqual(list(bands([(7, 8, 0, 9), (FAR, 8, 9, 0)])), [])

    def test_point_15_kinds(self):
        for band in bands(EXAMPLE):
            self.assertIs(isinstance(band, tuple), True)
            self.assertIs(isinstance(band[2], list), True)
            for run in band[2]:
                self.assertIs(isinstance(run, tuple), True)

    def test_point_15_many_lists(self):
        for rects in some_lists(300, 9, seed=3):
            self.assertEqual(list(bands(rects)), bands_of(cells_of(rects)), rects)

    def test_point_15_large_coordinates(self):
        self.assertEqual(
            list(bands([(-FAR, FAR, 2 * FAR, FAR), (FAR, FAR, 1, FAR)])),
            [(FAR, 2 * FAR, [(-FAR, FAR + 1)])],
        )


class Join(unittest.TestCase):
    def test_point_14_either_or_both(self):
        self.assertEqual(join(EXAMPLE[:1], EXAMPLE[1:]), EXAMPLE_REGION)
        self.assertEqual(join([(2, 0, 2, 1)], [(0, 0, 2, 1)]), [(0, 0, 4, 1)])

    def test_point_14_with_nothing(self):
        self.assertEqual(join([], []), [])
        self.assertEqual(join(EXAMPLE, []), EXAMPLE_REGION)
        self.assertEqual(join([(FAR, 0, 0, 0)], EXAMPLE), EXAMPLE_REGION)

    def test_point_14_many_lists(self):
        for first, second in zip(some_lists(200, 6, seed=4), some_lists(200, 6, seed=5)):
            expected = region_of(cells_of(first) | cells_of(second))
            self.assertEqual(join(first, second), expected, (first, second))


class Minus(unittest.TestCase):
    def test_point_14_a_hole_in_the_middle(self):
        self.assertEqual(
            minus([(0, 0, 5, 5)], [(1, 1, 2, 2)]),
            [(0, 0, 5, 1), (0, 1, 1, 2), (3, 1, 2, 2), (0, 3, 5, 2)],
        )

    def test_point_14_a_hole_lies_under_several_rectangles(self):
        self.assertEqual(minus([(0, 0, 5, 1)] * 4 + [(1, 0, 4, 1)], [(2, 0, 1, 1)]),
                         [(0, 0, 2, 1), (3, 0, 2, 1)])

    def test_point_14_holes_that_overlap_and_repeat(self):
        self.assertEqual(minus([(0, 0, 9, 1)], [(1, 0, 3, 1), (2, 0, 3, 1), (1, 0, 3, 1)]),
                         [(0, 0, 1, 1), (5, 0, 4, 1)])

    def test_point_14_touching_or_empty_holes_change_nothing(self):
        holes = [(5, 0, 2, 5), (-2, 0, 2, 5), (0, 5, 5, 1), (0, -1, 5, 1), (2, 2, 0, 1), (2, 2, 1, 0)]
        self.assertEqual(minus([(0, 0, 5, 5)], holes), [(0, 0, 5, 5)])

    def test_point_14_with_nothing(self):
        self.assertEqual(minus([], []), [])
        self.assertEqual(minus([], EXAMPLE), [])
        self.assertEqual(minus(EXAMPLE, []), EXAMPLE_REGION)
        self.assertEqual(minus(EXAMPLE, EXAMPLE), [])
        self.assertEqual(minus(EXAMPLE, [(-FAR, -FAR, 2 * FAR, 2 * FAR)]), [])

    def test_point_14_it_is_a_region(self):
        # The rows above and below the hole that is filled again have the same runs.
        self.assertEqual(minus([(0, 0, 3, 4), (3, 1, 1, 1)], [(3, 0, 9, 9)]), [(0, 0, 3, 4)])

    def test_point_14_all_pairs_of_small_rectangles(self):
        for first, second in product(small_rects(), repeat=2):
            expected = region_of(cells_of([first]) - cells_of([second]))
            self.assertEqual(minus([first], [second]), expected, (first, second))

    def test_point_14_many_lists(self):
        for first, second in zip(some_lists(300, 8, seed=6), some_lists(300, 5, seed=7)):
            expected = region_of(cells_of(first) - cells_of(second))
            self.assertEqual(minus(first, second), expected, (first, second))

    def test_point_14_dozens_of_large_rectangles(self):
        beams = [(-FAR, k * FAR, 30 * FAR, FAR // 2) for k in range(20)]
        found = minus(dozens_of_far_rects(), beams)
        self.assertEqual(len(found), 21 * 20)
        self.assertEqual(area(found), 20 * (FAR // 3) * (30 * FAR - 20 * (FAR // 2)))


class Cut(unittest.TestCase):
    def test_point_14_cells_inside_the_rectangle(self):
        self.assertEqual(cut(EXAMPLE, (1, 0, 1, 9)), [(1, 0, 1, 3)])
        self.assertEqual(cut([(0, 0, 3, 3), (5, 0, 3, 3)], (2, 1, 4, 9)), [(2, 1, 1, 2), (5, 1, 1, 2)])
        self.assertEqual(cut(EXAMPLE, (-FAR, -FAR, 2 * FAR, 2 * FAR)), EXAMPLE_REGION)

    def test_point_14_nothing_in_common(self):
        self.assertEqual(cut([], (0, 0, 9, 9)), [])
        self.assertEqual(cut(EXAMPLE, (1, 1, 0, 5)), [])
        self.assertEqual(cut(EXAMPLE, (3, 0, 5, 5)), [])
        self.assertEqual(cut(EXAMPLE, (0, 2, 1, 1)), [])

    def test_point_14_many_lists(self):
        for rects, rect in zip(some_lists(324, 8, seed=8), small_rects() * 4):
            wider = (rect[0] * 2, rect[1] * 2, rect[2] * 3, rect[3] * 3)
            expected = region_of(cells_of(rects) & cells_of([wider]))
            self.assertEqual(cut(rects, wider), expected, (rects, wider))


class Area(unittest.TestCase):
    def test_point_14_each_cell_counts_once(self):
        self.assertEqual(area(EXAMPLE), 7)
        self.assertEqual(area([(0, 0, 2, 2)] * 5), 4)
        self.assertEqual(area([(0, 0, 2, 3), (2, 0, 2, 3)]), 12)

    def test_point_14_nothing(self):
        self.assertEqual(area([]), 0)
        self.assertEqual(area([(1, 2, 0, 3), (FAR, -FAR, FAR, 0)]), 0)

    def test_point_14_large_coordinates(self):
        self.assertEqual(area([(-FAR, -FAR, 2 * FAR, FAR), (0, 0, 1, 1)]), 2 * FAR ** 2 + 1)

    def test_point_14_many_lists(self):
        for rects in some_lists(200, 9, seed=9):
            self.assertEqual(area(rects), len(cells_of(rects)), rects)


class Has(unittest.TestCase):
    def test_point_13_cells_next_to_each_edge(self):
        rects = [(9, 9, 0, 4), (0, 0, 2, 2), (1, 1, 2, 2)]
        for px, py in [(0, 0), (1, 0), (0, 1), (1, 1), (2, 1), (1, 2), (2, 2)]:
            self.assertIs(has(rects, px, py), True, (px, py))
        for px, py in [(2, 0), (0, 2), (-1, 0), (0, -1), (3, 1), (3, 3), (1, 3), (9, 9)]:
            self.assertIs(has(rects, px, py), False, (px, py))

    def test_point_13_nothing(self):
        self.assertIs(has([], 0, 0), False)
        self.assertIs(has([(0, 0, 0, 5), (0, 0, 5, 0)], 0, 0), False)

    def test_point_13_large_coordinates(self):
        rects = [(-FAR, -FAR, 1, 1), (FAR, FAR, FAR, FAR)]
        self.assertIs(has(rects, -FAR, -FAR), True)
        self.assertIs(has(rects, 2 * FAR - 1, 2 * FAR - 1), True)
        self.assertIs(has(rects, 2 * FAR, 2 * FAR - 1), False)

    def test_point_13_many_lists(self):
        for rects in some_lists(60, 6, seed=10):
            cells = cells_of(rects)
            for px, py in product(range(-8, 13), repeat=2):
                self.assertIs(has(rects, px, py), (px, py) in cells, (rects, px, py))


class Arguments(unittest.TestCase):
    def calls(self, first, second):
        return {
            "region": lambda: region(first),
            "bands": lambda: list(bands(first)),
            "join": lambda: join(first, second),
            "minus": lambda: minus(first, second),
            "cut": lambda: cut(first, (0, 0, 2, 2)),
            "area": lambda: area(first),
            "has": lambda: has(first, 1, 1),
        }

    def test_point_16_arguments_are_not_changed(self):
        for first, second in [(EXAMPLE_REGION, [(1, 1, 1, 1)]), ([(5, 5, 0, 0), (3, 1, 1, 1)], []), ([], [])]:
            given, other = list(first), list(second)
            for name, call in self.calls(given, other).items():
                call()
                self.assertEqual((given, other), (first, second), name)

    def test_points_3_and_16_each_list_is_a_new_one(self):
        # The lists that are passed are regions already, so returning one of them would be seen.
        first, second = list(EXAMPLE_REGION), []
        calls = self.calls(first, second)
        for name in ["region", "bands", "join", "minus", "cut"]:
            found = calls[name]()
            kept = list(found)
            again = calls[name]()
            found.append((9, 9, 9, 9))
            self.assertEqual(again, kept, name)
            self.assertEqual(calls[name](), kept, name)
            self.assertEqual((first, second), (EXAMPLE_REGION, []), name)

    def test_points_3_and_16_the_empty_region_is_a_new_list(self):
        region([]).append((9, 9, 9, 9))
        minus([], []).append((9, 9, 9, 9))
        join([], []).append((9, 9, 9, 9))
        cut([], (0, 0, 1, 1)).append((9, 9, 9, 9))
        for found in [region([]), minus([], []), join([], []), cut([], (0, 0, 1, 1))]:
            self.assertEqual(found, [])

    def test_point_3_what_was_passed_may_be_changed_later(self):
        first, second = list(EXAMPLE), [(0, 0, 1, 1)]
        found = [region(first), join(first, second), minus(first, second), cut(first, (0, 0, 9, 9))]
        kept = [list(one) for one in found]
        first.clear()
        second.append((0, 0, 9, 9))
        self.assertEqual(found, kept)

    def test_points_3_and_15_changes_while_the_bands_are_read(self):
        rects = list(EXAMPLE)
        found = []
        for top, bottom, runs in bands(rects):
            found.append((top, bottom, list(runs)))
            runs.append((99, 100))
            rects.append((0, 0, 50, 50))
        self.assertEqual(found, bands_of(cells_of(EXAMPLE)))

    def test_points_3_and_15_two_readers_do_not_disturb_each_other(self):
        first, second = bands(EXAMPLE), bands(EXAMPLE)
        next(first)[2].clear()
        self.assertEqual(list(second), bands_of(cells_of(EXAMPLE)))
        self.assertEqual(list(first), bands_of(cells_of(EXAMPLE))[1:])


if __name__ == "__main__":
    unittest.main()
