"""Point 2 and the interface 'landlines/spots.py': spots and turns."""

import unittest
from fractions import Fraction
from itertools import permutations, product
from math import gcd

from landlines.errors import BadSpot
from landlines.spots import spot_of, turn

NO_NUMBERS = (True, False, "1", "", None, 1.0, (1,), [1])


class SpotOfTest(unittest.TestCase):
    def test_lowest_terms_stay_as_they_are(self):
        for spot in ((0, 0, 1), (3, 4, 1), (3, 4, 5), (6, 10, 15), (2, 4, 3), (4, 6, 9)):
            with self.subTest(spot=spot):
                self.assertEqual(spot_of(*spot), spot)

    def test_a_number_that_goes_into_all_three_is_taken_out(self):
        self.assertEqual(spot_of(2, 4, 6), (1, 2, 3))
        self.assertEqual(spot_of(10, 20, 10), (1, 2, 1))
        self.assertEqual(spot_of(12, 18, 30), (2, 3, 5))
        self.assertEqual(spot_of(0, 6, 4), (0, 3, 2))
        self.assertEqual(spot_of(6, 0, 4), (3, 0, 2))

    def test_a_number_that_goes_into_two_only_stays(self):
        self.assertEqual(spot_of(2, 4, 1), (2, 4, 1))
        self.assertEqual(spot_of(2, 3, 4), (2, 3, 4))
        self.assertEqual(spot_of(3, 2, 4), (3, 2, 4))

    def test_both_zero(self):
        for by in (1, 2, 17, -1, -6):
            with self.subTest(by=by):
                self.assertEqual(spot_of(0, 0, by), (0, 0, 1))

    def test_spots_below_zero(self):
        self.assertEqual(spot_of(-2, -4, 6), (-1, -2, 3))
        self.assertEqual(spot_of(-3, 5, 2), (-3, 5, 2))
        self.assertEqual(spot_of(3, -6, 9), (1, -2, 3))

    def test_last_below_zero_turns_all_three_about(self):
        self.assertEqual(spot_of(1, 2, -1), (-1, -2, 1))
        self.assertEqual(spot_of(-2, 4, -6), (1, -2, 3))
        self.assertEqual(spot_of(0, -5, -10), (0, 1, 2))

    def test_numbers_of_any_size(self):
        big = 10 ** 6000
        self.assertEqual(spot_of(big, 3 * big, -2 * big), (-1, -3, 2))
        self.assertEqual(spot_of(big + 1, big, 1), (big + 1, big, 1))

    def test_every_small_spot_is_the_same_place_in_lowest_terms(self):
        for x, y, by in product(range(-8, 9), repeat=3):
            if by == 0:
                continue
            with self.subTest(x=x, y=y, by=by):
                spot = spot_of(x, y, by)
                self.assertIs(type(spot), tuple)
                self.assertEqual([type(part) for part in spot], [int, int, int])
                self.assertGreaterEqual(spot[2], 1)
                self.assertEqual(gcd(*spot), 1)
                self.assertEqual(Fraction(spot[0], spot[2]), Fraction(x, by))
                self.assertEqual(Fraction(spot[1], spot[2]), Fraction(y, by))

    def test_zero_as_the_last_is_refused(self):
        for x, y in ((0, 0), (1, 2), (-1, 0), (0, 7)):
            with self.subTest(x=x, y=y), self.assertRaises(BadSpot):
                spot_of(x, y, 0)

    def test_what_is_no_number_is_refused_at_each_place(self):
        for place, wrong in product(range(3), NO_NUMBERS):
            numbers = [1, 2, 3]
            numbers[place] = wrong
            with self.subTest(numbers=numbers), self.assertRaises(BadSpot):
                spot_of(*numbers)

    def test_what_is_no_number_beside_a_last_of_zero_is_refused(self):
        for wrong in NO_NUMBERS:
            with self.subTest(wrong=wrong), self.assertRaises(BadSpot):
                spot_of(wrong, 0, 0)


class TurnTest(unittest.TestCase):
    def test_left(self):
        self.assertEqual(turn((0, 0, 1), (1, 0, 1), (0, 1, 1)), 1)
        self.assertEqual(turn((0, 0, 1), (0, 5, 1), (-1, 9, 1)), 1)

    def test_right(self):
        self.assertEqual(turn((0, 0, 1), (0, 1, 1), (1, 0, 1)), -1)
        self.assertEqual(turn((0, 0, 1), (5, 0, 1), (9, -1, 1)), -1)

    def test_on_one_line(self):
        self.assertEqual(turn((0, 0, 1), (1, 1, 1), (2, 2, 1)), 0)
        self.assertEqual(turn((0, 0, 1), (2, 2, 1), (1, 1, 1)), 0)
        self.assertEqual(turn((1, 1, 1), (0, 0, 1), (-3, -3, 1)), 0)
        self.assertEqual(turn((1, 2, 3), (1, 5, 3), (1, 0, 3)), 0)

    def test_two_the_same(self):
        one, other = (1, 2, 3), (5, 7, 2)
        self.assertEqual(turn(one, one, other), 0)
        self.assertEqual(turn(one, other, one), 0)
        self.assertEqual(turn(other, one, one), 0)
        self.assertEqual(turn(one, one, one), 0)

    def test_different_last_numbers(self):
        self.assertEqual(turn((0, 0, 1), (1, 1, 2), (1, 1, 3)), 0)
        self.assertEqual(turn((0, 0, 1), (1, 1, 2), (33, 34, 100)), 1)
        self.assertEqual(turn((0, 0, 1), (1, 1, 2), (34, 33, 100)), -1)
        self.assertEqual(turn((1, 2, 3), (5, 4, 6), (7, 9, 5)), turn((10, 20, 1), (25, 20, 1), (42, 54, 1)))

    def test_a_hair_off_the_line_of_huge_numbers(self):
        big = 10 ** 5000
        self.assertEqual(turn((0, 0, 1), (big, big, 1), (big, big + 1, 1)), 1)
        self.assertEqual(turn((0, 0, 1), (big, big, 1), (big + 1, big, 1)), -1)
        self.assertEqual(turn((0, 0, 1), (big, big, 1), (big + 1, big + 1, big)), 0)

    def test_against_fractions(self):
        spots = [(0, 0, 1), (1, 0, 1), (-1, 2, 1), (1, 1, 2), (-1, 3, 2), (2, -1, 3), (4, 5, 6), (-7, -5, 4)]
        for one, two, three in permutations(spots, 3):
            with self.subTest(one=one, two=two, three=three):
                (ax, ay), (bx, by), (cx, cy) = [
                    (Fraction(x, last), Fraction(y, last)) for x, y, last in (one, two, three)
                ]
                area = (bx - ax) * (cy - ay) - (by - ay) * (cx - ax)
                told = turn(one, two, three)
                self.assertIs(type(told), int)
                self.assertEqual(told, (area > 0) - (area < 0))


if __name__ == "__main__":
    unittest.main()
