"""Points 3, 4, 5 and 7 to 9 and the interface 'landlines/land.py'."""

import unittest
from itertools import product
from math import gcd

from landlines.fences import edges, reach
from landlines.land import corners, holds, nothing
from landlines.spots import spot_of, turn
from tests import reference

BIG = 10 ** 5000


class HoldsTest(unittest.TestCase):
    def test_without_fences_it_is_just_the_field(self):
        for size in (1, 2, 1000):
            halves = (-1, 0, 1, 2 * size - 1, 2 * size, 2 * size + 1)
            for x, y in product(halves, repeat=2):
                with self.subTest(size=size, x=x, y=y):
                    inside = 0 <= x <= 2 * size and 0 <= y <= 2 * size
                    self.assertIs(holds(size, [], spot_of(x, y, 2)), inside)

    def test_edges_and_just_beyond(self):
        for spot in ((0, 0, 1), (10, 0, 1), (10, 10, 1), (0, 10, 1), (0, 7, 2), (30, 7, 3), (5, 0, 1), (1, 10, 1)):
            with self.subTest(spot=spot):
                self.assertIs(holds(10, [], spot), True)
        for spot in ((-1, 5, 1000), (10001, 5, 1000), (5, -1, 1000), (5, 10001, 1000)):
            with self.subTest(spot=spot):
                self.assertIs(holds(10, [], spot), False)

    def test_a_hair_within_and_a_hair_beyond_each_edge(self):
        for x, y in ((1, BIG), (BIG, 1), (9 * BIG, 10 * BIG - 1), (10 * BIG - 1, BIG)):
            self.assertIs(holds(10, [], (x, y, BIG)), True)
        for x, y in ((-1, BIG), (BIG, -1), (9 * BIG, 10 * BIG + 1), (10 * BIG + 1, BIG)):
            self.assertIs(holds(10, [], (x, y, BIG)), False)

    def test_both_sides_of_a_fence_and_its_line(self):
        fence = (1, 1, 5)
        self.assertIs(holds(10, [fence], (2, 2, 1)), True)
        self.assertIs(holds(10, [fence], (2, 3, 1)), True)
        self.assertIs(holds(10, [fence], (5, 5, 2)), True)
        self.assertIs(holds(10, [fence], (3, 3, 1)), False)

    def test_a_hair_off_the_line_of_a_fence(self):
        fence = (3, -7, 2)
        x, y = 3 * BIG, BIG
        self.assertIs(holds(10, [fence], spot_of(x, y, BIG)), True)
        self.assertIs(holds(10, [fence], spot_of(x + 1, y, BIG)), False)
        self.assertIs(holds(10, [fence], spot_of(x - 1, y, BIG)), True)
        self.assertIs(holds(10, [fence], spot_of(x, y + 1, BIG)), True)
        self.assertIs(holds(10, [fence], spot_of(x, y - 1, BIG)), False)

    def test_a_last_number_above_one_counts(self):
        self.assertIs(holds(10, [(2, 0, 5)], (5, 2, 2)), True)
        self.assertIs(holds(10, [(2, 0, 5)], (11, 2, 4)), False)
        self.assertIs(holds(10, [(2, 0, 5)], (5, 1, 1)), False)

    def test_a_spot_that_the_fences_keep_beyond_the_field_is_none_of_the_land(self):
        self.assertIs(holds(10, [(1, 1, 1000)], (11, 5, 1)), False)
        self.assertIs(holds(10, [(1, 1, 1000)], (5, -1, 1)), False)

    def test_each_of_sixteen_fences_counts(self):
        for place in range(16):
            fences = [(1, 0, 5 + number) for number in range(16)]
            self.assertIs(holds(10, fences, (5, 5, 1)), True)
            fences[place] = (1, 0, 4)
            with self.subTest(place=place):
                self.assertIs(holds(10, fences, (5, 5, 1)), False)

    def test_fences_at_their_bounds(self):
        self.assertIs(holds(1000, [(1000, 0, 1000000)], (1000, 3, 1)), True)
        self.assertIs(holds(1000, [(1000, 1000, 1000000)], (500, 500, 1)), True)
        self.assertIs(holds(1000, [(1000, 1000, 1000000)], (500, 501, 1)), False)
        self.assertIs(holds(1000, [(-1000, 0, -1000000)], (1000, 3, 1)), True)
        self.assertIs(holds(1000, [(-1000, 0, -1000000)], (1999, 3, 2)), False)

    def test_against_the_reaches(self):
        for size, fences in reference.chosen_fields(60):
            for x, y, by in product((0, 1, 3, size, 2 * size), (0, 1, 2, size, 3 * size), (1, 2, 3)):
                spot = spot_of(x, y, by)
                kept = all(reference.beyond(line, reference.parts(spot)) <= 0 for line in reference.lines(size, fences))
                with self.subTest(size=size, fences=fences, spot=spot):
                    self.assertIs(holds(size, fences, spot), kept)


class CornersTest(unittest.TestCase):
    def test_the_field_without_fences(self):
        for size in range(1, 1001):
            with self.subTest(size=size):
                told = corners(size, [])
                self.assertIs(type(told), list)
                self.assertEqual(told, [(0, 0, 1), (size, 0, 1), (size, size, 1), (0, size, 1)])

    def test_one_corner_of_the_field_cut_off(self):
        self.assertEqual(
            corners(10, [(1, 1, 15)]), [(0, 0, 1), (10, 0, 1), (10, 5, 1), (5, 10, 1), (0, 10, 1)]
        )
        self.assertEqual(
            corners(10, [(-1, -1, -5)]), [(5, 0, 1), (10, 0, 1), (10, 10, 1), (0, 10, 1), (0, 5, 1)]
        )
        self.assertEqual(
            corners(10, [(1, -1, 5)]), [(0, 0, 1), (5, 0, 1), (10, 5, 1), (10, 10, 1), (0, 10, 1)]
        )
        self.assertEqual(
            corners(10, [(-1, 1, 5)]), [(0, 0, 1), (10, 0, 1), (10, 10, 1), (5, 10, 1), (0, 5, 1)]
        )

    def test_all_but_one_corner_of_the_field_cut_off(self):
        self.assertEqual(corners(10, [(1, 1, 5)]), [(0, 0, 1), (5, 0, 1), (0, 5, 1)])
        self.assertEqual(corners(10, [(-1, -1, -15)]), [(10, 5, 1), (10, 10, 1), (5, 10, 1)])

    def test_the_lowest_is_first_even_where_another_is_farther_left(self):
        self.assertEqual(
            corners(10, [(-1, -1, -5), (1, -1, 5), (1, 1, 15), (-1, 1, 5)]),
            [(5, 0, 1), (10, 5, 1), (5, 10, 1), (0, 5, 1)],
        )

    def test_of_two_equally_low_the_one_farther_left_is_first(self):
        self.assertEqual(
            corners(9, [(0, -2, -3), (-3, 0, -2)]), [(4, 9, 6), (18, 3, 2), (9, 9, 1), (2, 27, 3)]
        )
        self.assertEqual(
            corners(9, [(0, -3, -1), (0, 3, 1), (-2, 0, -1), (7, 0, 4)]), [(3, 2, 6), (12, 7, 21)]
        )

    def test_heights_are_compared_as_they_are_divided(self):
        self.assertEqual(corners(9, [(2, 3, 7), (-5, -7, -17)]), [(17, 0, 5), (7, 0, 2), (2, 1, 1)])
        self.assertEqual(
            corners(9, [(1, 0, 0), (0, -3, -2), (0, 7, 5)]), [(0, 2, 3), (0, 5, 7)]
        )

    def test_corners_that_are_no_whole_numbers(self):
        self.assertEqual(corners(3, [(2, 1, 2), (1, 2, 2)]), [(0, 0, 1), (1, 0, 1), (2, 2, 3), (0, 1, 1)])
        self.assertEqual(
            corners(1, [(-2, -2, -1), (2, -2, 1), (3, 3, 5)]),
            [(1, 0, 2), (2, 1, 2), (3, 2, 3), (2, 3, 3), (0, 1, 1), (0, 1, 2)],
        )

    def test_a_stretch_has_its_two_ends(self):
        self.assertEqual(corners(10, [(1, -1, 0), (-1, 1, 0)]), [(0, 0, 1), (10, 10, 1)])
        self.assertEqual(corners(10, [(1, 1, 10), (-1, -1, -10)]), [(10, 0, 1), (0, 10, 1)])
        self.assertEqual(corners(10, [(2, 3, 4), (-2, -3, -4)]), [(2, 0, 1), (0, 4, 3)])

    def test_a_stretch_that_lies_level_or_upright(self):
        self.assertEqual(corners(10, [(0, 1, 4), (0, -1, -4)]), [(0, 4, 1), (10, 4, 1)])
        self.assertEqual(corners(10, [(1, 0, 4), (-1, 0, -4)]), [(4, 0, 1), (4, 10, 1)])
        self.assertEqual(corners(10, [(0, 1, 0)]), [(0, 0, 1), (10, 0, 1)])
        self.assertEqual(corners(10, [(1, 0, 0)]), [(0, 0, 1), (0, 10, 1)])
        self.assertEqual(corners(10, [(-1, 0, -10)]), [(10, 0, 1), (10, 10, 1)])
        self.assertEqual(corners(10, [(0, -1, -10)]), [(0, 10, 1), (10, 10, 1)])

    def test_a_stretch_between_multiples_of_a_fence_and_its_opposite(self):
        self.assertEqual(corners(10, [(2, 4, 8), (-3, -6, -12)]), [(4, 0, 1), (0, 2, 1)])

    def test_a_stretch_cut_off_at_both_ends(self):
        self.assertEqual(
            corners(10, [(1, -1, 0), (-1, 1, 0), (3, 0, 10), (0, -2, -1)]), [(1, 1, 2), (10, 10, 3)]
        )

    def test_a_single_spot(self):
        self.assertEqual(corners(10, [(1, 1, 0)]), [(0, 0, 1)])
        self.assertEqual(corners(10, [(-1, -1, -20)]), [(10, 10, 1)])
        self.assertEqual(corners(10, [(1, 0, 3), (-1, 0, -3), (0, 1, 4), (0, -1, -4)]), [(3, 4, 1)])
        self.assertEqual(corners(10, [(1, 1, 5), (1, -1, 0), (-2, 0, -5)]), [(5, 5, 2)])

    def test_nothing_has_no_corners(self):
        for fences in (
            [(1, 0, -1)], [(-1, 0, -11)], [(0, 1, -1)], [(0, -1, -11)], [(1, 1, -1)], [(-1, -1, -21)],
            [(1, 0, 3), (-1, 0, -4)], [(2, 2, 7), (-3, -3, -11)], [(1, 0, 4), (0, 1, 4), (-1, -1, -9)],
        ):
            with self.subTest(fences=fences):
                told = corners(10, fences)
                self.assertIs(type(told), list)
                self.assertEqual(told, [])

    def test_the_same_fence_twice_changes_nothing(self):
        for fence in ((1, 1, 15), (1, 0, 3), (-3, 2, 7), (1, 1, 0), (1, 0, -1)):
            with self.subTest(fence=fence):
                self.assertEqual(corners(10, [fence, fence]), corners(10, [fence]))
                self.assertEqual(corners(10, [fence] * 16), corners(10, [fence]))

    def test_a_fence_and_a_multiple_of_it_keep_the_same(self):
        self.assertEqual(corners(10, [(1, 1, 15), (3, 3, 45)]), corners(10, [(1, 1, 15)]))

    def test_a_fence_whose_line_lies_along_an_edge(self):
        square = corners(10, [])
        for fences in ([(1, 0, 10)], [(-1, 0, 0)], [(0, 5, 50)], [(0, -7, 0)], edges(10)):
            with self.subTest(fences=fences):
                self.assertEqual(corners(10, fences), square)

    def test_a_fence_that_only_touches_a_corner_of_the_field(self):
        self.assertEqual(corners(10, [(1, 1, 20)]), corners(10, []))
        self.assertEqual(corners(10, [(-1, -1, 0), (1, -1, 10), (-1, 1, 10)]), corners(10, []))

    def test_a_fence_far_off_the_field(self):
        self.assertEqual(corners(10, [(1, 1, 1000000), (-1, 3, 999)]), corners(10, []))

    def test_many_fences_through_one_spot(self):
        fences = [(1, b, 5 + 5 * b) for b in range(-7, 9)]
        self.assertEqual(len(fences), 16)
        self.assertEqual(corners(10, fences), [(0, 30, 7), (5, 5, 1), (0, 45, 8)])
        self.assertEqual(corners(10, fences[::-1]), [(0, 30, 7), (5, 5, 1), (0, 45, 8)])

    def test_sixteen_fences_of_which_each_cuts_off_a_corner(self):
        self.assertEqual(len(reference.RING), 16)
        told = corners(1000, reference.RING)
        self.assertEqual(len(told), 20)
        self.assertEqual(told, [reference.told(pair) for pair in reference.land(1000, reference.RING)])

    def test_fences_at_their_bounds(self):
        self.assertEqual(corners(1000, [(1000, 1000, 1000000)]), [(0, 0, 1), (1000, 0, 1), (0, 1000, 1)])
        self.assertEqual(corners(1000, [(-1000, -999, -1000000)]), [(1000, 0, 1), (1000, 1000, 1), (1, 1000, 1)])
        self.assertEqual(corners(1000, [(-1000, 0, 1000000)]), corners(1000, []))
        self.assertEqual(corners(1, [(1, 0, -1000000)]), [])

    def test_lines_that_run_nearly_the_same_way(self):
        self.assertEqual(
            corners(1000, [(-999, 1000, 0), (998, -999, 0)]), [(0, 0, 1), (999000, 998000, 999), (1000, 999, 1)]
        )
        self.assertEqual(corners(1000, [(999, -1000, 0), (-998, 999, 0)]), [(0, 0, 1)])
        self.assertEqual(corners(1000, [(999, -1000, -1), (-998, 999, 0)]), [])

    def test_the_order_of_the_fences_does_not_count(self):
        for size, fences in reference.chosen_fields(40):
            with self.subTest(size=size, fences=fences):
                self.assertEqual(corners(size, fences), corners(size, fences[::-1]))

    def test_against_the_field_cut_fence_by_fence(self):
        many = set()
        for size, fences in reference.chosen_fields():
            with self.subTest(size=size, fences=fences):
                told = corners(size, fences)
                many.add(len(told))
                self.assertEqual(told, [reference.told(pair) for pair in reference.land(size, fences)])
        self.assertLessEqual({0, 1, 2, 3, 4, 5, 6}, many)

    def test_what_point_8_says_of_each_corner(self):
        for size, fences in reference.chosen_fields(200):
            told = corners(size, fences)
            with self.subTest(size=size, fences=fences):
                self.assertEqual(len(told), len(set(told)))
                for spot in told:
                    self.check_corner(size, fences, spot)
                for spot in told[1:]:
                    self.check_behind(told[0], spot)
                if len(told) >= 3:
                    self.check_round(told)

    def check_corner(self, size, fences, spot):
        self.assertIs(type(spot), tuple)
        self.assertEqual([type(number) for number in spot], [int, int, int])
        self.assertGreaterEqual(spot[2], 1)
        self.assertEqual(gcd(*spot), 1)
        self.assertTrue(holds(size, fences, spot))
        through = [line for line in reference.lines(size, fences) if reach(line, spot) == 0]
        self.assertTrue(any(one[0] * other[1] != one[1] * other[0] for one, other in product(through, repeat=2)))

    def check_behind(self, first, spot):
        (x, y), (p, q) = reference.parts(first), reference.parts(spot)
        self.assertLess((y, x), (q, p))

    def check_round(self, told):
        for one, other in zip(told, told[1:] + told[:1]):
            for spot in told:
                if spot not in (one, other):
                    self.assertEqual(turn(one, other, spot), 1)

    def test_the_land_is_just_what_lies_between_its_corners(self):
        for size, fences in reference.chosen_fields(120):
            told = corners(size, fences)
            if len(told) < 3 or size > 10:
                continue
            for x, y in product(range(2 * size + 1), repeat=2):
                spot = spot_of(x, y, 2)
                between = all(turn(one, other, spot) >= 0 for one, other in zip(told, told[1:] + told[:1]))
                with self.subTest(size=size, fences=fences, spot=spot):
                    self.assertIs(holds(size, fences, spot), between)


class NothingTest(unittest.TestCase):
    def check(self, size, fences, numbers=None):
        """That pairs are told and show what they have to; and which numbers, where only these can."""
        pairs = nothing(size, fences)
        self.assertIs(type(pairs), list)
        self.assertIn(len(pairs), (2, 3))
        for pair in pairs:
            self.assertIs(type(pair), tuple)
            self.assertEqual([type(number) for number in pair], [int, int])
            self.assertIn(pair[0], range(len(fences) + 4))
            self.assertGreaterEqual(pair[1], 1)
        told = [number for number, _ in pairs]
        self.assertEqual(told, sorted(set(told)))
        a, b, c = reference.added_up(size, fences, pairs)
        self.assertEqual((a, b), (0, 0))
        self.assertLess(c, 0)
        if numbers is not None:
            self.assertEqual(told, numbers)

    def test_none_where_some_land_is_left(self):
        for fences in (
            [], [(1, 1, 5)], [(1, 1, 0)], [(1, -1, 0), (-1, 1, 0)], [(1, 0, 3), (-1, 0, -3)],
            [(1, 0, 0), (0, 1, 0), (-1, -1, 0)], [(-1, -1, -20)], [(0, -1, -10)], [(1, 1, 5)] * 16,
        ):
            with self.subTest(fences=fences):
                self.assertIsNone(nothing(10, fences))

    def test_two_fences_that_run_the_same_way(self):
        self.check(10, [(1, 0, 3), (-1, 0, -4)], [0, 1])
        self.check(10, [(-2, -2, -11), (3, 3, 7)], [0, 1])
        self.check(10, [(6, -4, 1), (-9, 6, -2)], [0, 1])
        self.check(10, [(0, 5, 14), (0, -3, -9)], [0, 1])

    def test_two_fences_that_run_the_same_way_and_just_touch(self):
        self.assertIsNone(nothing(10, [(6, -4, 2), (-9, 6, -3)]))
        self.assertIsNone(nothing(10, [(0, 5, 15), (0, -3, -9)]))

    def test_two_fences_that_leave_nothing_behind_others(self):
        self.check(10, [(1, 1, 19), (1, 2, 6), (-1, -1, 0), (-1, -2, -7), (1, 0, 9)], [1, 3])

    def test_a_fence_that_keeps_no_spot_of_the_field(self):
        self.check(10, [(1, 0, -1)], [0, 1])
        self.check(10, [(0, 1, -1)], [0, 2])
        self.check(10, [(-1, 0, -11)], [0, 3])
        self.check(10, [(0, -1, -11)], [0, 4])
        self.check(10, [(1, 1, -1)], [0, 1, 2])
        self.check(10, [(-1, 1, -11)], [0, 2, 3])
        self.check(10, [(-2, -3, -51)], [0, 3, 4])
        self.check(10, [(1, -1, -11)], [0, 1, 4])

    def test_numbers_of_edges_stand_behind_those_of_the_fences(self):
        self.check(10, [(1, 1, 19), (1, 1, 18), (1, 0, -1)], [2, 3])
        self.check(10, [(1, 1, 19)] * 15 + [(0, -1, -11)], [15, 19])

    def test_three_fences_of_which_each_two_leave_some(self):
        fences = [(1, 0, 4), (0, 1, 4), (-1, -1, -9)]
        self.check(10, fences, [0, 1, 2])
        for gone in range(3):
            self.assertIsNone(nothing(10, fences[:gone] + fences[gone + 1:]))
        self.check(10, [(-1, -1, -9), (0, 1, 4), (1, 0, 4)], [0, 1, 2])
        self.check(10, [(3, 1, 9), (-1, 2, 6), (-1, -3, -19)])

    def test_three_that_are_taken_more_than_once(self):
        self.check(100, [(2, 3, 100), (5, -7, 20), (-3, 1, -100)])
        self.check(100, [(3, 1, 160), (-2, 5, 100), (-1, -7, -400)])

    def test_three_that_just_meet_in_a_spot(self):
        self.assertIsNone(nothing(10, [(1, 0, 4), (0, 1, 4), (-1, -1, -8)]))

    def test_two_fences_and_an_edge(self):
        self.check(10, [(1, 3, 12), (1, -3, -13)], [0, 1, 2])
        self.check(10, [(-1, 3, 1), (-1, -3, -22)], [0, 1, 4])

    def test_fences_at_their_bounds(self):
        self.check(1000, [(1000, 1000, -1000000)])
        self.check(1000, [(1000, 999, 1000000), (-999, -1000, -1000000), (-1000, 1000, -1000000)])
        self.check(1, [(0, -1, -1000000)], [0, 4])

    def test_just_where_the_land_is_nothing(self):
        many = set()
        for size, fences in reference.chosen_fields():
            with self.subTest(size=size, fences=fences):
                if reference.land(size, fences):
                    self.assertIsNone(nothing(size, fences))
                else:
                    self.check(size, fences)
                    many.add(len(nothing(size, fences)))
        self.assertEqual(many, {2, 3})


if __name__ == "__main__":
    unittest.main()
