"""Point 13 and the interface 'landlines/ground.py'."""

import unittest

from landlines.errors import BadFence, BadSize, NoFence, TooMany
from landlines.far import twice_area
from landlines.ground import Ground
from landlines.land import corners
from tests import reference
from tests.test_refusals import NO_FENCES, NO_SIZES

FENCES = [(1, number, 5 + 5 * number) for number in range(-8, 9)]

NO_NUMBERS = (True, False, None, "0", "", b"0", [], [0], (), (0,), {}, {0: 1}, {0}, 0.0, 1.0, 0.5, (0, 1, 2))


def full_ground():
    ground = Ground(10)
    for fence in FENCES[:16]:
        ground.put(fence)
    return ground


class PutTest(unittest.TestCase):
    def test_numbers_from_0_on(self):
        ground = Ground(10)
        for number, fence in enumerate(FENCES[:16]):
            told = ground.put(fence)
            self.assertIs(type(told), int)
            self.assertEqual(told, number)

    def test_the_same_fence_twice(self):
        ground = Ground(10)
        self.assertEqual(ground.put((1, 1, 5)), 0)
        self.assertEqual(ground.put((1, 1, 5)), 1)
        self.assertEqual(ground.standing(), [(0, (1, 1, 5)), (1, (1, 1, 5))])

    def test_sixteen_stand_and_no_more(self):
        ground = full_ground()
        for _ in range(3):
            with self.assertRaises(TooMany):
                ground.put((1, 1, 5))
        self.assertEqual(ground.standing(), list(enumerate(FENCES[:16])))

    def test_a_place_that_comes_free_is_filled_with_a_new_number(self):
        ground = full_ground()
        ground.take(3)
        self.assertEqual(ground.put((1, 1, 5)), 16)
        with self.assertRaises(TooMany):
            ground.put((1, 1, 5))
        ground.take(16)
        self.assertEqual(ground.put((1, 1, 5)), 17)

    def test_what_is_no_fence_is_refused(self):
        ground = Ground(10)
        ground.put((1, 1, 5))
        for place, fence in enumerate(NO_FENCES):
            with self.subTest(place=place), self.assertRaises(BadFence):
                ground.put(fence)
        self.assertEqual(ground.standing(), [(0, (1, 1, 5))])
        self.assertEqual(ground.put((1, 1, 6)), 1)

    def test_what_is_no_fence_is_refused_as_such_also_where_16_stand(self):
        ground = full_ground()
        for place, fence in enumerate(NO_FENCES):
            with self.subTest(place=place), self.assertRaises(BadFence):
                ground.put(fence)

    def test_a_refusal_uses_up_no_number(self):
        ground = full_ground()
        for fence in ((1, 1, 5), (0, 0, 0)):
            with self.assertRaises((TooMany, BadFence)):
                ground.put(fence)
        ground.take(0)
        self.assertEqual(ground.put((1, 1, 5)), 16)

    def test_fences_at_their_bounds(self):
        ground = Ground(1000)
        self.assertEqual(ground.put((1000, -1000, 1000000)), 0)
        self.assertEqual(ground.put((-1000, 1000, -1000000)), 1)
        self.assertEqual(ground.standing(), [(0, (1000, -1000, 1000000)), (1, (-1000, 1000, -1000000))])

    def test_a_fence_that_leaves_nothing_is_put_too(self):
        ground = Ground(10)
        self.assertEqual(ground.put((1, 0, -1)), 0)
        self.assertEqual(ground.put((1, 1, 5)), 1)


class TakeTest(unittest.TestCase):
    def setUp(self):
        self.ground = Ground(10)
        for fence in FENCES[:4]:
            self.ground.put(fence)

    def refuses(self, number):
        before = self.ground.standing()
        with self.assertRaises(NoFence):
            self.ground.take(number)
        self.assertEqual(self.ground.standing(), before)

    def test_the_fence_that_goes_is_told(self):
        self.assertEqual(self.ground.take(1), FENCES[1])
        self.assertEqual(self.ground.standing(), [(0, FENCES[0]), (2, FENCES[2]), (3, FENCES[3])])
        self.assertEqual(self.ground.take(3), FENCES[3])
        self.assertEqual(self.ground.take(0), FENCES[0])
        self.assertEqual(self.ground.take(2), FENCES[2])
        self.assertEqual(self.ground.standing(), [])

    def test_a_number_that_went(self):
        self.ground.take(2)
        self.refuses(2)
        self.ground.put((1, 1, 5))
        self.refuses(2)

    def test_the_next_number_to_come_and_those_behind(self):
        for number in (4, 5, 16, 10 ** 6000):
            self.refuses(number)

    def test_below_0(self):
        for number in (-1, -4, -(10 ** 6000)):
            self.refuses(number)

    def test_what_is_no_number(self):
        for number in NO_NUMBERS:
            with self.subTest(number=number):
                self.refuses(number)

    def test_an_empty_ground(self):
        ground = Ground(10)
        for number in (0, 1, -1, None, True, False):
            with self.subTest(number=number), self.assertRaises(NoFence):
                ground.take(number)

    def test_a_number_never_comes_again(self):
        ground = Ground(10)
        for number in range(40):
            self.assertEqual(ground.put(FENCES[number % 16]), number)
            self.assertEqual(ground.take(number), FENCES[number % 16])
        self.assertEqual(ground.standing(), [])
        self.assertEqual(ground.put((1, 1, 5)), 40)

    def test_a_refused_take_uses_up_no_number(self):
        self.refuses(4)
        self.refuses(None)
        self.assertEqual(self.ground.put((1, 1, 5)), 4)


class StandingTest(unittest.TestCase):
    def test_nothing_stands_at_first(self):
        told = Ground(10).standing()
        self.assertIs(type(told), list)
        self.assertEqual(told, [])

    def test_pairs_by_rising_numbers(self):
        ground = full_ground()
        for number in (5, 0, 15, 7):
            ground.take(number)
        ground.put((1, 1, 1))
        ground.put((1, 1, 0))
        told = ground.standing()
        self.assertTrue(all(type(pair) is tuple and len(pair) == 2 for pair in told))
        kept = [(number, FENCES[number]) for number in range(16) if number not in (0, 5, 7, 15)]
        self.assertEqual(told, [*kept, (16, (1, 1, 1)), (17, (1, 1, 0))])

    def test_a_told_list_that_is_changed_changes_no_answer(self):
        ground = Ground(10)
        ground.put((1, 1, 15))
        for ask in (ground.standing, ground.corners):
            told = ask()
            wanted = list(told)
            told.reverse()
            told.append("more")
            told[0] = None
            self.assertIsNot(ask(), told)
            self.assertEqual(ask(), wanted)
            ask().clear()
            self.assertEqual(ask(), wanted)
        self.assertEqual(ground.area(), (175, 1))


class LandOfAGroundTest(unittest.TestCase):
    def check(self, ground, size):
        fences = [fence for _, fence in ground.standing()]
        told, area = ground.corners(), ground.area()
        self.assertIs(type(told), list)
        self.assertIs(type(area), tuple)
        self.assertEqual(told, corners(size, fences))
        self.assertEqual(area, twice_area(size, fences))

    def test_without_fences(self):
        for size in (1, 7, 1000):
            ground = Ground(size)
            self.assertEqual(ground.corners(), [(0, 0, 1), (size, 0, 1), (size, size, 1), (0, size, 1)])
            self.assertEqual(ground.area(), (2 * size * size, 1))

    def test_put_and_take(self):
        ground = Ground(10)
        ground.put((1, 1, 15))
        self.assertEqual(ground.corners(), [(0, 0, 1), (10, 0, 1), (10, 5, 1), (5, 10, 1), (0, 10, 1)])
        self.assertEqual(ground.area(), (175, 1))
        ground.put((-3, 0, -1))
        self.assertEqual(ground.area(), (505, 3))
        ground.put((1, 0, 0))
        self.assertEqual(ground.corners(), [])
        self.assertEqual(ground.area(), (0, 1))
        ground.take(1)
        self.assertEqual(ground.corners(), [(0, 0, 1), (0, 10, 1)])
        self.assertEqual(ground.area(), (0, 1))
        ground.take(2)
        ground.take(0)
        self.assertEqual(ground.corners(), corners(10, []))
        self.assertEqual(ground.area(), (200, 1))

    def test_a_refusal_changes_nothing(self):
        ground = Ground(10)
        ground.put((1, 1, 15))
        for refused in (lambda: ground.put((0, 0, 1)), lambda: ground.take(1), lambda: ground.take(True)):
            with self.assertRaises((BadFence, NoFence)):
                refused()
            self.assertEqual(ground.corners(), corners(10, [(1, 1, 15)]))
            self.assertEqual(ground.area(), (175, 1))

    def test_alike_to_corners_and_twice_area(self):
        for size, fences in reference.chosen_fields(80):
            ground = Ground(size)
            with self.subTest(size=size, fences=fences):
                for fence in fences:
                    ground.put(fence)
                    self.check(ground, size)
                for number in range(0, len(fences), 2):
                    ground.take(number)
                    self.check(ground, size)


class GroundTest(unittest.TestCase):
    def test_sizes(self):
        for size in (1, 2, 999, 1000):
            self.assertEqual(Ground(size).standing(), [])

    def test_what_is_no_size_is_refused(self):
        for place, size in enumerate(NO_SIZES):
            with self.subTest(place=place), self.assertRaises(BadSize):
                Ground(size)

    def test_two_grounds_have_nothing_in_common(self):
        one, other = Ground(10), Ground(20)
        one.put((1, 1, 15))
        one.put((1, 0, 3))
        self.assertEqual(other.standing(), [])
        self.assertEqual(other.put((0, 1, 5)), 0)
        one.take(0)
        self.assertEqual(one.standing(), [(1, (1, 0, 3))])
        self.assertEqual(other.standing(), [(0, (0, 1, 5))])
        self.assertEqual(one.area(), (60, 1))
        self.assertEqual(other.area(), (200, 1))
        with self.assertRaises(NoFence):
            other.take(1)


if __name__ == "__main__":
    unittest.main()
