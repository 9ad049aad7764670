"""Points 10 to 12 and the interface 'landlines/far.py'."""

import unittest
from fractions import Fraction
from itertools import product
from math import gcd

from landlines.errors import BadFence, BadSize, BadWay, NoLand, TooMany
from landlines.far import farthest, twice_area
from landlines.fences import reach
from landlines.land import corners
from tests import reference

WAYS = [way for way in product((-3, -2, -1, 0, 1, 2, 3), repeat=2) if way != (0, 0)]

NO_WAYS = (
    (0, 0), (1001, 0), (0, 1001), (-1001, 0), (0, -1001), (1, 10 ** 6000), (-(10 ** 6000), 1),
    (), (1,), (1, 2, 3), ((1, 2),), [1, 2], "12", b"12", {1: 2, 2: 1}, None, True, False, 0, 1, 12,
    (True, 1), (1, True), (False, 1), (1, False), (None, 1), (1, None), ("1", 1), (1, "1"), (1.0, 1), (1, 0.5),
    ((1,), 1), (1, [1]),
)


class FarthestTest(unittest.TestCase):
    def check(self, size, fences, way, wanted=None):
        """That what is told holds, and shows that no spot lies farther."""
        answer = farthest(size, fences, way)
        self.assertIs(type(answer), tuple)
        spot, whole, pairs = answer
        self.assertIs(type(pairs), list)
        self.assertIs(type(whole), int)
        self.assertGreaterEqual(whole, 1)
        self.assertIn(len(pairs), (1, 2))
        lines = reference.lines(size, fences)
        for pair in pairs:
            self.assertIs(type(pair), tuple)
            self.assertEqual([type(number) for number in pair], [int, int])
            self.assertIn(pair[0], range(len(lines)))
            self.assertGreaterEqual(pair[1], 1)
            self.assertEqual(reach(lines[pair[0]], spot), 0)
        numbers = [number for number, _ in pairs]
        self.assertEqual(numbers, sorted(set(numbers)))
        self.assertEqual(reference.added_up(size, fences, pairs)[:2], (whole * way[0], whole * way[1]))
        self.assertEqual(spot, self.first_farthest(size, fences, way))
        if wanted is not None:
            self.assertEqual(spot, wanted)
        return whole, pairs

    def first_farthest(self, size, fences, way):
        shape = reference.land(size, fences)
        heights = [way[0] * x + way[1] * y for x, y in shape]
        return reference.told(shape[heights.index(max(heights))])

    def test_ways_to_all_sides_of_the_field(self):
        for way, wanted in (
            ((1, 2), (10, 10, 1)), ((-1, 2), (0, 10, 1)), ((-2, -1), (0, 0, 1)), ((3, -1), (10, 0, 1)),
            ((1000, 1000), (10, 10, 1)), ((-1000, 999), (0, 10, 1)), ((-1000, -1000), (0, 0, 1)),
        ):
            with self.subTest(way=way):
                self.check(10, [], way, wanted)

    def test_ways_square_to_an_edge_tell_the_corner_that_is_told_first(self):
        for way, wanted in (
            ((1, 0), (10, 0, 1)), ((0, 1), (10, 10, 1)), ((-1, 0), (0, 0, 1)), ((0, -1), (0, 0, 1)),
            ((1000, 0), (10, 0, 1)), ((0, -7), (0, 0, 1)),
        ):
            with self.subTest(way=way):
                self.check(10, [], way, wanted)

    def test_a_way_square_to_an_edge_is_shown_by_this_edge(self):
        self.assertEqual(self.check(10, [], (0, 1)), (1, [(3, 1)]))
        self.assertEqual(self.check(10, [], (0, 7)), (1, [(3, 7)]))
        self.assertEqual(self.check(10, [(1, 1, 30), (1, 1, 40)], (-3, 0)), (1, [(2, 3)]))

    def test_ways_square_to_a_fence_tell_the_corner_that_is_told_first(self):
        self.check(10, [(1, 1, 15)], (1, 1), (10, 5, 1))
        self.check(10, [(1, 1, 15)], (1000, 1000), (10, 5, 1))
        self.check(10, [(-1, 1, 5)], (-2, 2), (5, 10, 1))
        self.check(10, [(-1, -1, -5)], (-1, -1), (5, 0, 1))
        self.check(10, [(1, -1, 5)], (1, -1), (5, 0, 1))

    def test_a_fence_that_is_a_multiple_of_the_way_or_the_other_way_about(self):
        self.assertEqual(self.check(10, [(6, 4, 50)], (3, 2)), (2, [(0, 1)]))
        self.assertEqual(self.check(10, [(3, 2, 25)], (6, 4)), (1, [(0, 2)]))
        self.assertEqual(self.check(10, [(6, 4, 50)], (9, 6)), (2, [(0, 3)]))

    def test_a_spot_that_is_no_whole_one(self):
        self.check(3, [(2, 1, 2), (1, 2, 2)], (1, 1), (2, 2, 3))
        self.check(3, [(2, 1, 2), (1, 2, 2)], (2, 1), (1, 0, 1))
        self.check(9, [(0, -2, -3), (-3, 0, -2)], (-1, -1), (4, 9, 6))

    def test_what_is_compared_is_divided(self):
        # The corners are (3, 2, 6) and (12, 7, 21): the numbers above alone, or crosswise, would tell another.
        fences = [(0, -3, -1), (0, 3, 1), (-2, 0, -1), (7, 0, 4)]
        self.check(9, fences, (1, 0), (12, 7, 21))
        self.check(9, fences, (-1, 0), (3, 2, 6))
        self.check(9, fences, (0, 1), (3, 2, 6))

    def test_a_land_that_is_a_stretch(self):
        fences = [(1, -1, 0), (-1, 1, 0)]
        for way, wanted in (
            ((1, 0), (10, 10, 1)), ((0, -1), (0, 0, 1)), ((1, -1), (0, 0, 1)), ((-1, 1), (0, 0, 1)),
            ((3, -2), (10, 10, 1)), ((2, -3), (0, 0, 1)), ((-1, -1), (0, 0, 1)),
        ):
            with self.subTest(way=way):
                self.check(10, fences, way, wanted)

    def test_a_land_that_is_a_spot(self):
        for fences, wanted in (
            ([(1, 1, 0)], (0, 0, 1)), ([(-1, -1, -20)], (10, 10, 1)),
            ([(1, 1, 5), (1, -1, 0), (-2, 0, -5)], (5, 5, 2)),
            ([(1, 0, 3), (-1, 0, -3), (0, 1, 4), (0, -1, -4)], (3, 4, 1)),
        ):
            for way in WAYS:
                with self.subTest(fences=fences, way=way):
                    self.check(10, fences, way, wanted)

    def test_many_fences_through_one_spot(self):
        fences = [(1, b, 5 + 5 * b) for b in range(-7, 9)]
        for way in WAYS:
            with self.subTest(way=way):
                self.check(10, fences, way)

    def test_many_corners(self):
        for way in (*WAYS, (1000, -1000), (-1000, 999), (997, 3)):
            with self.subTest(way=way):
                self.check(1000, reference.RING, way)

    def test_the_bounds(self):
        for way in product((-1000, -999, 0, 999, 1000), repeat=2):
            if way != (0, 0):
                with self.subTest(way=way):
                    self.check(1000, [(1000, 999, 1000000), (-999, 1000, 0)], way)
                    self.check(1, [], way)

    def test_chosen_fields(self):
        found = set()
        for size, fences in reference.chosen_fields(150):
            if reference.land(size, fences):
                ways = [fence[:2] for fence in fences] + [(-fence[0], -fence[1]) for fence in fences]
                for way in WAYS[::5] + ways[:8]:
                    with self.subTest(size=size, fences=fences, way=way):
                        _, pairs = self.check(size, fences, way)
                        found.add(len(pairs))
        self.assertEqual(found, {1, 2})

    def test_what_is_no_way_is_refused(self):
        for place, way in enumerate(NO_WAYS):
            with self.subTest(place=place), self.assertRaises(BadWay):
                farthest(10, [(1, 1, 5)], way)

    def test_no_land(self):
        for fences in ([(1, 0, -1)], [(1, 0, 3), (-1, 0, -4)], [(1, 0, 4), (0, 1, 4), (-1, -1, -9)]):
            for way in ((1, 0), (-1000, 1000)):
                with self.subTest(fences=fences, way=way), self.assertRaises(NoLand):
                    farthest(10, fences, way)

    def test_which_refusal_comes_first(self):
        bad, many, none = (0, 0, 0), [(0, 0, 0)] * 17, (1, 0, -1)
        for refusal, size, fences, way in (
            (BadSize, 0, many, None), (TooMany, 10, many, None), (TooMany, 10, [none] * 17, None),
            (BadFence, 10, [none, bad], None), (BadFence, 10, [none, bad], (1, 1)),
            (BadWay, 10, [none], None), (BadWay, 10, [none], (0, 0)), (NoLand, 10, [none], (1, 1)),
        ):
            with self.subTest(refusal=refusal, fences=fences), self.assertRaises(refusal):
                farthest(size, fences, way)


class TwiceAreaTest(unittest.TestCase):
    def check(self, size, fences, wanted):
        told = twice_area(size, fences)
        self.assertIs(type(told), tuple)
        self.assertEqual([type(number) for number in told], [int, int])
        self.assertEqual(told, wanted)

    def test_the_field_without_fences(self):
        for size in range(1, 1001):
            with self.subTest(size=size):
                self.check(size, [], (2 * size * size, 1))

    def test_a_part_of_the_field(self):
        self.check(10, [(1, 1, 15)], (175, 1))
        self.check(10, [(1, 1, 5)], (25, 1))
        self.check(10, [(1, 0, 3)], (60, 1))
        self.check(10, [(-1, -1, -15)], (25, 1))

    def test_an_area_that_is_no_whole_number(self):
        self.check(3, [(2, 1, 2), (1, 2, 2)], (4, 3))
        self.check(1, [(2, 2, 1)], (1, 4))
        self.check(1, [(3, 0, 1)], (2, 3))
        self.check(9, [(0, -2, -3), (-3, 0, -2)], (125, 1))
        self.check(10, [(7, 3, 5)], (25, 21))
        self.check(1, [(1000, 1000, 1)], (1, 1000000))

    def test_nothing_a_spot_and_a_stretch(self):
        for fences in (
            [(1, 0, -1)], [(1, 0, 3), (-1, 0, -4)], [(1, 1, 0)], [(1, 1, 5), (1, -1, 0), (-2, 0, -5)],
            [(1, -1, 0), (-1, 1, 0)], [(2, 3, 4), (-2, -3, -4)], [(0, 7, 3), (0, -7, -3)], [(3, 0, 1), (-3, 0, -1)],
            [(1, 0, 0)], [(0, -1, -10)], [(5, 7, 20), (-5, -7, -20), (11, 0, 13)],
        ):
            with self.subTest(fences=fences):
                self.check(10, fences, (0, 1))

    def test_a_land_of_many_corners(self):
        area = reference.twice_area(1000, reference.RING)
        self.check(1000, reference.RING, (area.numerator, area.denominator))

    def test_against_the_field_cut_fence_by_fence(self):
        for size, fences in reference.chosen_fields():
            with self.subTest(size=size, fences=fences):
                area = reference.twice_area(size, fences)
                self.check(size, fences, (area.numerator, area.denominator))

    def test_lowest_terms(self):
        for size, fences in reference.chosen_fields():
            over, under = twice_area(size, fences)
            self.assertGreaterEqual(under, 1)
            self.assertGreaterEqual(over, 0)
            self.assertEqual(gcd(over, under), 1)
            self.assertEqual(over > 0, len(corners(size, fences)) >= 3)

    def test_a_fence_and_its_opposite_part_each_land(self):
        for size, fences in reference.chosen_fields(200):
            fences = fences[:15]
            for fence in ((1, 1, size), (2, -3, 1), (1, 0, 0), (0, 7, 3 * size), (-999, 1000, 5)):
                with self.subTest(size=size, fences=fences, fence=fence):
                    one = Fraction(*twice_area(size, [*fences, fence]))
                    other = Fraction(*twice_area(size, [*fences, reference.opposite(fence)]))
                    self.assertEqual(one + other, Fraction(*twice_area(size, fences)))


if __name__ == "__main__":
    unittest.main()
