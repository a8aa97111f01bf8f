"""Points 81 and 82: growing and shrinking."""

import random
import unittest

from quirekiln.rows import grow_widths, shrink_widths
from layouts import model_grown, model_shrunk

MANY = 10 ** 9


class Growing(unittest.TestCase):
    def check(self, free, bases, weights, limits, expected):
        before = (list(bases), list(weights), list(limits))
        self.assertEqual(grow_widths(free, bases, weights, limits), expected)
        self.assertEqual((bases, weights, limits), before)

    def test_point_81_one_child(self):
        self.check(7, [10], [1], [100], [17])
        self.check(7, [10], [50], [100], [17])
        self.check(7, [10], [1], [17], [17])
        self.check(7, [10], [1], [16], [16])
        self.check(7, [10], [1], [10], [10])
        self.check(7, [10], [0], [100], [10])
        self.check(7, [], [], [], [])

    def test_point_81_equal_weights(self):
        self.check(9, [1, 2, 3], [1, 1, 1], [MANY] * 3, [4, 5, 6])
        self.check(9, [1, 2, 3], [4, 4, 4], [MANY] * 3, [4, 5, 6])

    def test_point_81_unequal_weights(self):
        self.check(12, [0, 0, 0], [1, 2, 3], [MANY] * 3, [2, 4, 6])
        self.check(12, [5, 0, 1], [3, 2, 1], [MANY] * 3, [11, 4, 3])

    def test_point_81_weights_of_0_take_no_part(self):
        self.check(9, [1, 2, 3], [1, 0, 2], [MANY] * 3, [4, 2, 9])
        self.check(10, [1, 2, 3], [0, 1, 1], [MANY] * 3, [1, 7, 8])
        self.check(9, [1, 2, 3], [0, 0, 0], [MANY] * 3, [1, 2, 3])

    def test_point_81_units_that_are_left_over_go_to_the_first_that_take_part(self):
        self.check(11, [0, 0, 0], [1, 1, 1], [MANY] * 3, [4, 4, 3])
        self.check(10, [0, 0, 0], [1, 1, 1], [MANY] * 3, [4, 3, 3])
        self.check(11, [0, 0, 0, 0], [0, 1, 1, 1], [MANY] * 4, [0, 4, 4, 3])
        # The shares are 0.8, 0.8 and 2.4, rounded down.
        self.check(4, [0, 0, 0], [2, 2, 6], [MANY] * 3, [1, 1, 2])
        self.check(1, [0, 0], [1, 100], [MANY] * 2, [1, 0])

    def test_point_81_limits_that_are_met_in_one_round(self):
        self.check(30, [0, 0, 0], [1, 1, 1], [4, MANY, MANY], [4, 13, 13])
        self.check(30, [0, 0, 0], [1, 1, 1], [4, 5, MANY], [4, 5, 21])
        # A share that just meets the limit does not exceed it.
        self.check(30, [0, 0, 0], [1, 1, 1], [10, MANY, MANY], [10, 10, 10])

    def test_point_81_limits_that_are_met_in_several_rounds(self):
        self.check(30, [0, 0, 0], [1, 1, 1], [4, 12, MANY], [4, 12, 14])
        self.check(60, [0, 0, 0, 0], [1, 1, 1, 1], [5, 18, 19, MANY], [5, 18, 19, 18])
        self.check(60, [0, 0, 0, 0], [1, 1, 1, 1], [5, 17, 18, MANY], [5, 17, 18, 20])

    def test_point_81_the_amount_is_dealt_out_again_from_the_bases(self):
        self.check(10, [8, 1], [1, 1], [9, MANY], [9, 10])
        self.check(10, [8, 1, 3], [3, 1, 1], [9, MANY, MANY], [9, 6, 7])

    def test_point_81_a_unit_that_is_left_over_counts_towards_the_limit(self):
        # The first one would have 3 + 1.
        self.check(7, [0, 0], [1, 1], [3, MANY], [3, 4])

    def test_point_81_a_rest_that_stays_unused(self):
        self.check(30, [1, 2], [1, 1], [4, 5], [4, 5])
        self.check(30, [1, 2, 3], [1, 0, 1], [4, 5, 3], [4, 2, 3])

    def test_point_81_great_numbers(self):
        self.check(MANY, [MANY, 0], [1, 2], [2 * MANY, 2 * MANY], [MANY + 333333334, 666666666])
        self.check(MANY, [0, 0], [MANY, MANY - 1], [MANY, MANY], [500000001, 499999999])

    def test_point_3_a_new_list(self):
        bases = [1, 2]
        self.assertIsNot(grow_widths(5, bases, [0, 0], [9, 9]), bases)
        self.assertIsNot(shrink_widths(5, bases, [0, 0], [0, 0]), bases)


class Shrinking(unittest.TestCase):
    def check(self, missing, bases, weights, limits, expected):
        before = (list(bases), list(weights), list(limits))
        self.assertEqual(shrink_widths(missing, bases, weights, limits), expected)
        self.assertEqual((bases, weights, limits), before)

    def test_point_82_one_child(self):
        self.check(7, [10], [1], [0], [3])
        self.check(7, [10], [1], [3], [3])
        self.check(7, [10], [1], [4], [4])
        self.check(17, [10], [1], [0], [0])
        self.check(7, [10], [0], [0], [10])
        self.check(7, [0], [5], [0], [0])
        self.check(7, [], [], [], [])

    def test_point_82_the_weight_is_shrink_times_the_base(self):
        self.check(12, [40, 20], [1, 1], [0, 0], [32, 16])
        self.check(12, [40, 20], [1, 2], [0, 0], [34, 14])
        self.check(6, [10, 0, 20], [1, 9, 1], [0, 0, 0], [8, 0, 16])

    def test_point_82_weights_of_0_take_no_part(self):
        self.check(6, [10, 50, 20], [1, 0, 1], [0, 0, 0], [8, 50, 16])
        self.check(6, [10, 50], [0, 0], [0, 0], [10, 50])

    def test_point_82_units_that_are_left_over(self):
        self.check(5, [10, 10, 10], [1, 1, 1], [0, 0, 0], [8, 8, 9])
        self.check(5, [0, 10, 10, 10], [1, 1, 1, 1], [0, 0, 0, 0], [0, 8, 8, 9])
        self.check(1, [1, 1000], [1, 1], [0, 0], [0, 1000])

    def test_point_82_limits_in_one_round_and_in_several(self):
        self.check(15, [20, 20, 20], [1, 1, 1], [17, 0, 0], [17, 14, 14])
        self.check(30, [20, 20, 20], [1, 1, 1], [15, 9, 0], [15, 9, 6])
        # 10 each just meets the limit of the first one.
        self.check(30, [20, 20, 20], [1, 1, 1], [10, 10, 0], [10, 10, 10])

    def test_point_82_a_rest_that_stays_unused(self):
        self.check(30, [10, 10], [1, 1], [6, 7], [6, 7])
        self.check(100, [10, 10], [1, 1], [0, 0], [0, 0])

    def test_point_82_great_numbers(self):
        self.check(MANY, [MANY, MANY], [1, 1], [0, 0], [500000000, 500000000])
        self.check(MANY, [MANY, MANY], [100, 1], [MANY // 2, 0], [500000000, 500000000])


class Both(unittest.TestCase):
    def test_points_81_and_82_against_the_model(self):
        source = random.Random(3)
        for _ in range(3000):
            count = source.randint(0, 6)
            high = source.choice([3, 30, MANY])
            bases = [source.randint(0, high) for _ in range(count)]
            weights = [source.choice([0, 1, 1, 2, 100]) for _ in range(count)]
            above = [base + source.choice([0, 1, 5, high]) for base in bases]
            below = [source.choice([0, base, source.randint(0, base)]) for base in bases]
            amount = source.randint(1, 2 * high)
            self.assertEqual(grow_widths(amount, bases, weights, above), model_grown(amount, bases, weights, above))
            self.assertEqual(shrink_widths(amount, bases, weights, below), model_shrunk(amount, bases, weights, below))

    def test_points_81_and_82_nothing_is_lost(self):
        source = random.Random(4)
        for _ in range(500):
            bases = [source.randint(0, 50) for _ in range(5)]
            amount = source.randint(1, 100)
            self.assertEqual(sum(grow_widths(amount, bases, [1, 2, 0, 3, 4], [999] * 5)), sum(bases) + amount)
            if sum(bases) >= amount:
                self.assertEqual(sum(shrink_widths(amount, bases, [1, 2, 5, 3, 4], [0] * 5)), sum(bases) - amount)

    def test_rows_of_many_children(self):
        limits = list(range(300))
        widths = grow_widths(MANY, [0] * 300, [1] * 300, limits)
        self.assertEqual(widths, limits)


if __name__ == "__main__":
    unittest.main()
