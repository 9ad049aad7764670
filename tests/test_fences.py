"""Points 4, 5 and 6 and the interface 'landlines/fences.py'."""

import unittest
from fractions import Fraction
from itertools import product

from landlines.errors import BadFence, BadSize
from landlines.fences import edges, fence_of, meeting, reach
from landlines.spots import spot_of

NO_NUMBERS = (True, False, "1", "", None, 1.0, (1,), [1])


class FenceOfTest(unittest.TestCase):
    def test_a_fence_is_the_tuple_of_its_numbers(self):
        for numbers in ((1, 2, 3), (-4, 6, -8), (0, 1, 0), (1, 0, 0), (0, -1, 5), (2, 4, 6)):
            with self.subTest(numbers=numbers):
                fence = fence_of(*numbers)
                self.assertIs(type(fence), tuple)
                self.assertEqual(fence, numbers)

    def test_each_number_at_its_bounds(self):
        for a, b, c in product((-1000, 0, 1000), (-1000, 0, 1000), (-1000000, 0, 1000000)):
            if (a, b) != (0, 0):
                with self.subTest(a=a, b=b, c=c):
                    self.assertEqual(fence_of(a, b, c), (a, b, c))

    def test_each_number_one_beyond_its_bounds(self):
        for numbers in (
            (1001, 1, 1), (-1001, 1, 1), (1, 1001, 1), (1, -1001, 1), (1, 1, 1000001), (1, 1, -1000001),
            (1001, 0, 0), (0, -1001, 0),
        ):
            with self.subTest(numbers=numbers), self.assertRaises(BadFence):
                fence_of(*numbers)

    def test_far_beyond_the_bounds(self):
        for place, wrong in product(range(3), (10 ** 6000, -(10 ** 6000))):
            numbers = [1, 1, 1]
            numbers[place] = wrong
            with self.subTest(place=place), self.assertRaises(BadFence):
                fence_of(*numbers)

    def test_a_and_b_both_zero(self):
        for c in (-1, 0, 1, 1000000):
            with self.subTest(c=c), self.assertRaises(BadFence):
                fence_of(0, 0, c)

    def test_what_is_no_number_is_refused_at_each_place(self):
        for place, wrong in product(range(3), NO_NUMBERS):
            numbers = [1, 2, 3]
            numbers[place] = wrong
            with self.subTest(numbers=numbers), self.assertRaises(BadFence):
                fence_of(*numbers)


class ReachTest(unittest.TestCase):
    def test_above_zero(self):
        self.assertEqual(reach((1, 0, 5), (6, 3, 1)), 1)
        self.assertEqual(reach((2, 3, 4), (5, 6, 1)), 24)

    def test_zero_on_the_line(self):
        self.assertEqual(reach((1, 0, 5), (5, 100, 1)), 0)
        self.assertEqual(reach((2, 2, 1), (1, 0, 2)), 0)
        self.assertEqual(reach((-3, 7, 0), (7, 3, 4)), 0)

    def test_below_zero(self):
        self.assertEqual(reach((1, 0, 5), (4, 3, 1)), -1)
        self.assertEqual(reach((-1, -1, 0), (2, 3, 1)), -5)

    def test_c_is_taken_times_by(self):
        self.assertEqual(reach((2, 3, 4), (5, 6, 7)), 2 * 5 + 3 * 6 - 4 * 7)
        self.assertEqual(reach((1, -1, -10), (1, 2, 3)), 29)

    def test_a_fence_somewhat_beyond_the_bounds_is_not_refused(self):
        self.assertEqual(reach((2000, 0, 3000000), (1, 2, 1)), -2998000)

    def test_spots_outside_of_any_field(self):
        self.assertEqual(reach((1, 1, 0), (-3, -4, 2)), -7)
        big = 10 ** 5000
        self.assertEqual(reach((1000, -1000, 1000000), (big, big, 1)), -1000000)


class EdgesTest(unittest.TestCase):
    def test_four_edges_in_their_order(self):
        for size in (1, 2, 7, 999, 1000):
            with self.subTest(size=size):
                told = edges(size)
                self.assertIs(type(told), list)
                self.assertEqual(told, [(-1, 0, 0), (0, -1, 0), (1, 0, size), (0, 1, size)])

    def test_edges_are_fences(self):
        for fence in edges(1000):
            self.assertIs(type(fence), tuple)
            self.assertEqual(fence_of(*fence), fence)

    def test_edges_keep_just_the_field(self):
        size = 2
        for x, y, by in product(range(-5, 12), range(-5, 12), (1, 2, 3)):
            inside = 0 <= Fraction(x, by) <= size and 0 <= Fraction(y, by) <= size
            kept = all(reach(fence, spot_of(x, y, by)) <= 0 for fence in edges(size))
            with self.subTest(x=x, y=y, by=by):
                self.assertEqual(kept, inside)

    def test_what_is_no_size_is_refused(self):
        for size in (-1, 0, 1001, -1000, 10 ** 6000, *NO_NUMBERS):
            with self.subTest(size=str(size)[:9] if not isinstance(size, int) else size.bit_length()):
                with self.assertRaises(BadSize):
                    edges(size)

    def test_each_list_is_a_new_one(self):
        first = edges(3)
        self.assertIsNot(first, edges(3))
        first[0] = "changed"
        first.append("more")
        first.reverse()
        self.assertEqual(edges(3), [(-1, 0, 0), (0, -1, 0), (1, 0, 3), (0, 1, 3)])


class MeetingTest(unittest.TestCase):
    def test_the_same_way(self):
        self.assertIsNone(meeting((1, 2, 3), (1, 2, 4)))
        self.assertIsNone(meeting((1, 2, 3), (3, 6, 4)))
        self.assertIsNone(meeting((1, 0, 0), (5, 0, 9)))
        self.assertIsNone(meeting((0, 1, 0), (0, 7, 9)))

    def test_the_same_line(self):
        self.assertIsNone(meeting((1, 2, 3), (1, 2, 3)))
        self.assertIsNone(meeting((1, 2, 3), (2, 4, 6)))

    def test_lines_turned_about(self):
        self.assertIsNone(meeting((1, 2, 3), (-1, -2, -3)))
        self.assertIsNone(meeting((1, 2, 3), (-2, -4, 9)))
        self.assertIsNone(meeting((1, 0, 5), (-1, 0, 0)))

    def test_nearly_the_same_way(self):
        self.assertEqual(meeting((1000, 999, 0), (999, 998, 1)), (999, -1000, 1))

    def test_a_spot_of_whole_numbers(self):
        self.assertEqual(meeting((1, 0, 3), (0, 1, 4)), (3, 4, 1))
        self.assertEqual(meeting((0, 1, 4), (1, 0, 3)), (3, 4, 1))
        self.assertEqual(meeting((1, 1, 10), (1, -1, 2)), (6, 4, 1))
        self.assertEqual(meeting((1, 1, 0), (1, -1, 0)), (0, 0, 1))
        self.assertEqual(meeting((1, 1, -10), (1, -1, -2)), (-6, -4, 1))

    def test_a_spot_of_fractions(self):
        self.assertEqual(meeting((2, 0, 1), (0, 3, 1)), (3, 2, 6))
        self.assertEqual(meeting((2, 1, 2), (1, 2, 2)), (2, 2, 3))
        self.assertEqual(meeting((1, 1, 1), (1, -1, 0)), (1, 1, 2))
        self.assertEqual(meeting((3, 0, -1), (0, 5, 2)), (-5, 6, 15))

    def test_the_edges_meet_in_the_corners_of_the_field(self):
        left, lower, right, upper = edges(9)
        self.assertEqual(meeting(left, lower), (0, 0, 1))
        self.assertEqual(meeting(lower, right), (9, 0, 1))
        self.assertEqual(meeting(right, upper), (9, 9, 1))
        self.assertEqual(meeting(upper, left), (0, 9, 1))
        self.assertIsNone(meeting(left, right))
        self.assertIsNone(meeting(lower, upper))

    def test_numbers_at_their_bounds(self):
        self.assertEqual(meeting((1000, 0, 1000000), (0, -1000, 1000000)), (1000, -1000, 1))
        self.assertEqual(meeting((1000, 1, 1000000), (1000, -1, -1000000)), (0, 1000000, 1))

    def test_fences_somewhat_beyond_the_bounds_are_not_refused(self):
        self.assertEqual(meeting((2000, 0, 4000000), (0, 1, 3000000)), (2000, 3000000, 1))

    def test_all_small_fences(self):
        slopes = [(a, b) for a, b in product(range(-2, 3), repeat=2) if (a, b) != (0, 0)]
        fences = [(a, b, c) for a, b in slopes for c in (-3, 0, 4)]
        for one, other in product(fences, repeat=2):
            with self.subTest(one=one, other=other):
                spot = meeting(one, other)
                self.assertEqual(spot, meeting(other, one))
                if one[0] * other[1] == one[1] * other[0]:
                    self.assertIsNone(spot)
                else:
                    self.assertIs(type(spot), tuple)
                    self.assertEqual(spot, spot_of(*spot))
                    self.assertGreaterEqual(spot[2], 1)
                    self.assertEqual(reach(one, spot), 0)
                    self.assertEqual(reach(other, spot), 0)


if __name__ == "__main__":
    unittest.main()
