"""Answers found another way, by cutting the field with one fence after the other, to compare with.

Nothing here is taken from the package. Spots are pairs of fractions.
"""

from fractions import Fraction
from math import gcd
from random import Random

# Sixteen fences around the middle of a field of size 1000, each of which cuts a piece off.
RING = [
    (a * p, b * q, 500 * a * p + 500 * b * q + many)
    for a, b, many in ((98, 20, 50200), (83, 56, 50400), (56, 83, 50400), (20, 98, 50200))
    for p, q in ((1, 1), (-1, 1), (-1, -1), (1, -1))
]


def parts(spot):
    """A told spot as a pair of fractions."""
    return (Fraction(spot[0], spot[2]), Fraction(spot[1], spot[2]))


def told(pair):
    """A pair of fractions as the program tells a spot."""
    x, y = pair
    by = x.denominator * y.denominator // gcd(x.denominator, y.denominator)
    return (int(x * by), int(y * by), by)


def beyond(fence, pair):
    return fence[0] * pair[0] + fence[1] * pair[1] - fence[2]


def cut(shape, fence):
    """What a fence keeps of a shape that is told by the spots around it."""
    kept = []
    for one, other in zip(shape, shape[1:] + shape[:1]):
        here, there = beyond(fence, one), beyond(fence, other)
        if here <= 0:
            kept.append(one)
        if here * there < 0:
            share = here / (here - there)
            kept.append((one[0] + share * (other[0] - one[0]), one[1] + share * (other[1] - one[1])))
    return kept


def side(one, two, three):
    return (two[0] - one[0]) * (three[1] - one[1]) - (two[1] - one[1]) * (three[0] - one[0])


def hull(spots):
    """The corners around spots, from the lowest (of these the one farthest left) on, against the clock."""
    spots = sorted(set(spots), key=lambda pair: (pair[1], pair[0]))
    if len(spots) < 3:
        return spots
    ways = []
    for row in (spots, spots[::-1]):
        way = []
        for spot in row:
            while len(way) > 1 and side(way[-2], way[-1], spot) <= 0:
                way.pop()
            way.append(spot)
        ways.append(way[:-1])
    return ways[0] + ways[1]


def land(size, fences):
    """The corners of the land as pairs of fractions."""
    low, high = Fraction(0), Fraction(size)
    shape = [(low, low), (high, low), (high, high), (low, high)]
    for fence in fences:
        shape = cut(shape, fence)
    return hull(shape)


def twice_area(size, fences):
    shape = land(size, fences)
    return sum((side(shape[0], one, two) for one, two in zip(shape[1:], shape[2:])), Fraction(0))


def lines(size, fences):
    """The fences and the edges, by their numbers."""
    return [*fences, (-1, 0, 0), (0, -1, 0), (1, 0, size), (0, 1, size)]


def added_up(size, fences, pairs):
    """The sums of the a, the b and the c of the fences and edges that pairs name."""
    rows = lines(size, fences)
    return tuple(sum(often * rows[number][place] for number, often in pairs) for place in range(3))


def opposite(fence):
    return tuple(-number for number in fence)


def slope(chance, most):
    while True:
        pair = (chance.randint(-most, most), chance.randint(-most, most))
        if pair != (0, 0):
            return pair


def fence_through(chance, most, spot):
    """A fence whose line goes through a spot of whole numbers."""
    a, b = slope(chance, most)
    return (a, b, a * spot[0] + b * spot[1])


def fence_near(chance, most, size):
    """A fence whose line goes through the field or not far from it."""
    a, b, c = fence_through(chance, most, (chance.randint(0, size), chance.randint(0, size)))
    return (a, b, max(-1000000, min(1000000, c + chance.randint(-most, most))))


def chosen_fields(many=400):
    """Sizes with fences of all kinds, the same ones in each run."""
    chance = Random(20260719)
    fields = []
    for _ in range(many):
        size = chance.choice((1, 2, 3, 5, 10, 100, 1000))
        most = chance.choice((1, 2, 3, 10, 1000))
        spot = (chance.randint(0, size), chance.randint(0, size))
        fences = []
        for _ in range(chance.choice((0, 1, 2, 3, 3, 4, 4, 5, 6, 8, 16))):
            kind = chance.randint(0, 5)
            if kind == 0 and fences:
                fences.append(opposite(chance.choice(fences)))
            elif kind == 1 and fences:
                fences.append(chance.choice(fences))
            elif kind <= 3:
                fences.append(fence_through(chance, most, spot))
            else:
                fences.append(kept_likely(chance, most, size, spot))
        fields.append((size, [fence for fence in fences if abs(fence[2]) <= 1000000]))
    return fields


def kept_likely(chance, most, size, spot):
    """A fence near the field that more often than not keeps a spot."""
    fence = fence_near(chance, most, size)
    if beyond(fence, spot) > 0 and chance.randint(0, 4) > 0:
        return opposite(fence)
    return fence
