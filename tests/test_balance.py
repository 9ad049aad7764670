"""What points 9 and 11 rest on: how often fences are taken so that they come to nothing."""

import unittest
from itertools import product
from math import gcd

from landlines.balance import balance_of_three, balance_of_two

SLOPES = [slope for slope in product(range(-3, 4), repeat=2) if slope != (0, 0)]


def sums(slopes, often):
    return [sum(many * slope[place] for slope, many in zip(slopes, often)) for place in range(2)]


class BalanceTest(unittest.TestCase):
    def test_two_that_run_against_each_other(self):
        self.assertEqual(balance_of_two((1, 0), (-1, 0)), (1, 1))
        self.assertEqual(balance_of_two((0, 3, 7), (0, -5, 8)), (5, 3))
        self.assertEqual(balance_of_two((6, -4), (-9, 6)), (3, 2))
        self.assertEqual(balance_of_two((1000, 1000), (-1, -1)), (1, 1000))

    def test_two_that_do_not(self):
        for one, other in (((1, 0), (1, 0)), ((2, 3), (4, 6)), ((1, 0), (0, 1)), ((1, 2), (-1, -3)), ((1, 1), (-1, 1))):
            with self.subTest(one=one, other=other):
                self.assertIsNone(balance_of_two(one, other))

    def test_three_around(self):
        self.assertEqual(balance_of_three((1, 0), (0, 1), (-1, -1)), (1, 1, 1))
        self.assertEqual(balance_of_three((0, 1), (1, 0), (-1, -1)), (1, 1, 1))
        self.assertEqual(balance_of_three((2, 0, 9), (0, 3, 9), (-1, -1, 9)), (3, 2, 6))

    def test_three_that_do_not_go_around(self):
        for three in ((-1, 1), (1, 1), (0, -1), (-1, 0), (2, 0), (1, -1)):
            with self.subTest(three=three):
                self.assertIsNone(balance_of_three((1, 0), (0, 1), three))

    def test_all_small_ones(self):
        for one, two, three in product(SLOPES, SLOPES, SLOPES[::5]):
            often = balance_of_three(one, two, three)
            if often is not None:
                self.assertGreater(min(often), 0)
                self.assertEqual(gcd(*often), 1)
                self.assertEqual(sums((one, two, three), often), [0, 0])
        for one, two in product(SLOPES, repeat=2):
            often = balance_of_two(one, two)
            if often is not None:
                self.assertGreater(min(often), 0)
                self.assertEqual(gcd(*often), 1)
                self.assertEqual(sums((one, two), often), [0, 0])


if __name__ == "__main__":
    unittest.main()
