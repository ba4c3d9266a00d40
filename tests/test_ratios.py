"""Numbers stay as small as they can: no answer shows that, but long requests need it."""

import unittest

from earthheaps.distributions import common_units, mean_weights
from earthheaps.ratios import greatest_divisor, least_multiple, lowest_terms


class Ratios(unittest.TestCase):
    def test_greatest_divisor(self):
        for first, second, divisor in ((12, 18, 6), (18, 12, 6), (7, 5, 1), (0, 5, 5), (5, 0, 5), (-12, 18, 6)):
            with self.subTest(first=first, second=second):
                self.assertEqual(greatest_divisor(first, second), divisor)

    def test_least_multiple(self):
        for first, second, multiple in ((4, 6, 12), (6, 4, 12), (3, 5, 15), (7, 7, 7), (1, 9, 9)):
            with self.subTest(first=first, second=second):
                self.assertEqual(least_multiple(first, second), multiple)

    def test_lowest_terms(self):
        cases = [(6, 4, [3, 2]), (0, 7, [0, 1]), (7, 7, [1, 1]), (5, 1, [5, 1]), (-6, 4, [-3, 2]),
                 (-7, 7, [-1, 1]), (-4, 6, [-2, 3]), (3 ** 90, 3 ** 91, [1, 3])]
        for numerator, denominator, terms in cases:
            with self.subTest(numerator=numerator, denominator=denominator):
                self.assertEqual(lowest_terms(numerator, denominator), terms)


class Weights(unittest.TestCase):
    def test_common_units(self):
        self.assertEqual(common_units([1, 3], [2, 4]), 12)
        self.assertEqual(common_units([20, 20], [20, 20]), 40)

    def test_means_do_not_grow(self):
        for first, second, weights in [
            ([1, 1], [1, 1], [1, 1]),
            ([2, 2], [7, 7], [1, 1]),
            ([1, 0], [0, 1], [1, 1]),
            ([3, 0], [1, 1], [3, 1]),
            ([4, 8], [20, 10], [1, 1]),
            ([0, 20], [0, 3], [0, 1]),
        ]:
            with self.subTest(first=first, second=second):
                self.assertEqual(mean_weights(first, second), weights)


if __name__ == "__main__":
    unittest.main()
