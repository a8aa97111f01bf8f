"""Point 85: the widths of the columns of a grid."""

import random
import unittest

from quirekiln.grids import column_widths
from layouts import model_columns


class ColumnWidths(unittest.TestCase):
    def check(self, narrows, wides, expected):
        """The widths for each room of a dict."""
        for room, widths in expected.items():
            before = (list(narrows), list(wides))
            self.assertEqual(column_widths(narrows, wides, room), widths, room)
            self.assertEqual((narrows, wides), before)

    def test_point_85_rooms_from_below_the_narrow_sum_to_above_the_wide_sum(self):
        self.check([4, 2, 6], [10, 2, 20], {
            0: [4, 2, 6], 11: [4, 2, 6], 12: [4, 2, 6],
            # Between 12 and 32: the shares are 6 / 20 and 14 / 20 of what is more than 12.
            13: [5, 2, 6], 14: [5, 2, 7], 15: [5, 2, 8], 22: [7, 2, 13], 31: [10, 2, 19],
            32: [10, 2, 20], 33: [11, 2, 20], 34: [11, 3, 20], 35: [11, 3, 21], 38: [12, 4, 22], 332: [110, 102, 120],
        })

    def test_point_85_units_that_are_left_over_go_to_columns_whose_measures_differ(self):
        self.check([5, 1, 1, 1], [5, 3, 3, 3], {9: [5, 2, 1, 1], 10: [5, 2, 2, 1], 11: [5, 2, 2, 2], 12: [5, 3, 2, 2]})

    def test_point_85_equal_measures(self):
        self.check([3, 4], [3, 4], {0: [3, 4], 6: [3, 4], 7: [3, 4], 8: [4, 4], 9: [4, 5]})
        self.check([0, 0, 0], [0, 0, 0], {0: [0, 0, 0], 4: [2, 1, 1]})

    def test_point_85_one_column(self):
        self.check([3], [9], {0: [3], 2: [3], 3: [3], 4: [4], 8: [8], 9: [9], 10: [10], 1000: [1000]})

    def test_point_85_against_the_model(self):
        source = random.Random(5)
        for _ in range(3000):
            count = source.randint(1, 6)
            high = source.choice([2, 20, 10 ** 9])
            narrows = [source.randint(0, high) for _ in range(count)]
            wides = [low + source.choice([0, 0, source.randint(0, high)]) for low in narrows]
            low, high = sum(narrows), sum(wides)
            for room in {0, max(0, low - 1), low, low + 1, source.randint(low, high), max(0, high - 1), high, high + 1,
                         high + source.randint(0, 30)}:
                widths = column_widths(narrows, wides, room)
                self.assertEqual(widths, model_columns(narrows, wides, room))
                self.assertEqual(sum(widths), max(low, room))

    def test_point_3_a_new_list(self):
        narrows = [1, 2]
        self.assertIsNot(column_widths(narrows, [3, 4], 0), narrows)
        wides = [3, 4]
        self.assertIsNot(column_widths(narrows, wides, 7), wides)


if __name__ == "__main__":
    unittest.main()
