"""Point 114 and quirekiln.pixels: the colors of cells."""

import random
import time
import unittest

from quirekiln.pixels import color_at, paint
from paints import last_color


def item(rect, color):
    """A painted item."""
    return ("ground", rect, color, 1, 0, 0)


ITEMS = [item((0, 0, 4, 3), 5), item((1, 1, 6, 1), 7), item((-3, 2, 5, 9), 2), item((2, 0, 1, 1), 255)]


class Colors(unittest.TestCase):
    def test_point_114_the_last_item_counts(self):
        told = [[color_at(ITEMS, x, y) for x in range(-1, 8)] for y in range(-1, 4)]
        self.assertEqual(told, [
            [0, 0, 0, 0, 0, 0, 0, 0, 0],
            [0, 5, 5, 255, 5, 0, 0, 0, 0],
            [0, 5, 7, 7, 7, 7, 7, 7, 0],
            [2, 2, 2, 5, 5, 0, 0, 0, 0],
            [2, 2, 2, 0, 0, 0, 0, 0, 0],
        ])
        self.assertEqual(paint(ITEMS, (-1, -1, 9, 5)), told)

    def test_point_114_without_items(self):
        self.assertEqual(color_at([], 0, 0), 0)
        self.assertEqual(paint([], (5, 6, 3, 2)), [[0, 0, 0], [0, 0, 0]])

    def test_rectangles_beyond_all_items(self):
        self.assertEqual(paint(ITEMS, (100, 100, 2, 1)), [[0, 0]])
        self.assertEqual(paint(ITEMS, (-100, 0, 1, 2)), [[0], [0]])

    def test_empty_rectangles(self):
        for rect in [(0, 0, 0, 0), (0, 0, 5, 0), (0, 0, 0, 5), (900, -7, 0, 0)]:
            self.assertEqual(paint(ITEMS, rect), [])

    def test_one_cell(self):
        for x in range(-4, 8):
            for y in range(-2, 12):
                self.assertEqual(paint(ITEMS, (x, y, 1, 1)), [[color_at(ITEMS, x, y)]])

    def test_empty_items_cover_nothing(self):
        self.assertEqual(paint([item((0, 0, 0, 5), 3), item((0, 0, 5, 0), 4)], (0, 0, 2, 2)), [[0, 0], [0, 0]])

    def test_against_the_model(self):
        source = random.Random(6)
        for _ in range(100):
            items = [
                item((source.randint(-5, 9), source.randint(-5, 9), source.randint(0, 8), source.randint(0, 8)),
                     source.randint(1, 255))
                for _ in range(source.randint(0, 12))
            ]
            x, y, w, h = [source.randint(-5, 9) for _ in range(2)] + [source.randint(0, 9) for _ in range(2)]
            before = list(items)
            told = [[last_color(items, px, py) for px in range(x, x + w)] for py in range(y, y + h)] if w else []
            self.assertEqual(paint(items, (x, y, w, h)), told)
            if w:
                found = [[color_at(items, px, py) for px in range(x, x + w)] for py in range(y, y + h)]
                self.assertEqual(found, told)
            self.assertEqual(items, before)

    def test_point_3_each_row_is_a_list_of_its_own(self):
        rows = paint([item((0, 0, 9, 9), 3)], (0, 0, 2, 3))
        rows[0][0] = 99
        self.assertEqual(rows, [[99, 3], [3, 3], [3, 3]])
        self.assertEqual(paint([item((0, 0, 9, 9), 3)], (0, 0, 2, 1)), [[3, 3]])

    def test_great_rectangles_come_promptly(self):
        items = [item((k, k, 1000 - 2 * k, 1000 - 2 * k), k % 255 + 1) for k in range(500)]
        items += [item((0, 0, 1000000, 1000000), 9)]
        start = time.process_time()
        for rect in [(0, 0, 1000, 1000), (0, 0, 1, 1000000), (0, 0, 1000000, 1)]:
            rows = paint(items, rect)
            self.assertEqual((len(rows), len(rows[0]), rows[-1][-1]), (rect[3], rect[2], 9))
        rows = paint(items[:-1], (0, 0, 1000, 1000))
        self.assertEqual([rows[k][k] for k in (0, 1, 499, 500, 999)], [1, 2, 245, 245, 1])
        self.assertLess(time.process_time() - start, 10)


if __name__ == "__main__":
    unittest.main()
