"""The words at the head of the interface: what is refused of sizes and lists of fences, and in which order."""

import unittest

from landlines.errors import BadFence, BadSize, LandError, TooMany
from landlines.far import farthest, twice_area
from landlines.land import corners, holds, nothing

NO_SIZES = (
    0, -1, 1001, -1000, 10 ** 6000, -(10 ** 6000), True, False, None, "10", "", b"1", 1.0, 10.5, (), (10,), [10], {},
)

NO_FENCES = (
    (), (1,), (1, 2), (1, 2, 3, 4), ((1, 2, 3),), [1, 2, 3], "123", b"123", {1: 1, 2: 2, 3: 3}, None, True, False, 0, 7,
    (0, 0, 0), (0, 0, 5), (1001, 0, 0), (-1001, 0, 0), (0, 1001, 0), (0, -1001, 0), (1, 1, 1000001), (1, 1, -1000001),
    (10 ** 6000, 1, 1), (1, 1, -(10 ** 6000)),
    (True, 1, 1), (1, True, 1), (1, 1, True), (False, 1, 1), (1, False, 1), (1, 1, False),
    (None, 1, 1), (1, None, 1), (1, 1, None), ("1", 1, 1), (1, "1", 1), (1, 1, "1"), (1, 1, 1.0), (1, [1], 1),
)

# Each function to which a size and a list of fences are handed in.
ASKED = {
    "holds": lambda size, fences: holds(size, fences, (1, 1, 1)),
    "corners": corners,
    "nothing": nothing,
    "farthest": lambda size, fences: farthest(size, fences, (1, 2)),
    "twice_area": twice_area,
}


class RefusalsTest(unittest.TestCase):
    def refused(self, refusal, size, fences):
        for name, function in ASKED.items():
            with self.subTest(name=name), self.assertRaises(LandError) as caught:
                function(size, fences)
            self.assertIs(type(caught.exception), refusal, name)

    def test_what_is_no_size(self):
        for place, size in enumerate(NO_SIZES):
            with self.subTest(place=place):
                self.refused(BadSize, size, [])
                self.refused(BadSize, size, [(1, 1, 1)])

    def test_more_than_16_fences(self):
        for many in (17, 18, 100):
            with self.subTest(many=many):
                self.refused(TooMany, 10, [(1, 1, 5)] * many)
                self.refused(TooMany, 10, [(1, 1, number) for number in range(many)])

    def test_what_is_no_fence(self):
        for place, fence in enumerate(NO_FENCES):
            with self.subTest(place=place):
                self.refused(BadFence, 10, [fence])

    def test_what_is_no_fence_at_each_place(self):
        for place in range(16):
            fences = [(1, 1, 5)] * 16
            fences[place] = (0, 0, 0)
            with self.subTest(place=place):
                self.refused(BadFence, 10, fences)

    def test_what_is_no_fence_behind_some_that_leave_nothing(self):
        self.refused(BadFence, 10, [(1, 0, -1), (0, 0, 0)])
        self.refused(BadFence, 10, [(1, 0, 3), (-1, 0, -4), (1, 1, 5), None])

    def test_the_size_comes_first(self):
        for size in (0, 1001, None, True):
            self.refused(BadSize, size, [(0, 0, 0)])
            self.refused(BadSize, size, [(1, 1, 5)] * 17)
            self.refused(BadSize, size, [None] * 17)

    def test_too_many_come_before_what_is_no_fence(self):
        self.refused(TooMany, 10, [(0, 0, 0)] * 17)
        self.refused(TooMany, 10, [None, *[(1, 1, 5)] * 16])
        self.refused(TooMany, 10, [*[(1, 1, 5)] * 16, None])

    def test_what_is_within_the_bounds_is_not_refused(self):
        for size in (1, 2, 999, 1000):
            for fences in (
                [], [(1, 1, 1000000)] * 16, [(1000, 1000, 1000000), (-1000, -1000, 1000000), (1000, 0, 1000000)],
                [(0, 1000, 1000000), (0, -1000, 0), (-1000, 0, 0)],
            ):
                for name, function in ASKED.items():
                    with self.subTest(name=name, size=size, fences=fences):
                        function(size, fences)


if __name__ == "__main__":
    unittest.main()
