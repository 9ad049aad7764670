"""How far the land goes a way, and how much land there is."""

from itertools import combinations
from math import gcd

from landlines.balance import balance_of_three, balance_of_two
from landlines.checks import is_number_within
from landlines.errors import BadWay, NoLand
from landlines.fences import fences_and_edges, reach
from landlines.land import corners, corners_between

MOST_STEP = 1000


def farthest(size, fences, way):
    """The farthest spot of the land, the whole, and the pairs that show that no spot lies farther."""
    lines = fences_and_edges(size, fences)
    _check_way(way)
    told = corners_between(lines)
    if not told:
        raise NoLand("no land is left")
    spot = _farthest_of(told, way)
    whole, pairs = _shown(lines, spot, way)
    return (spot, whole, pairs)


def _check_way(value):
    if not (isinstance(value, tuple) and len(value) == 2):
        raise BadWay("a way is a tuple of two numbers")
    p, q = value
    if not (is_number_within(p, -MOST_STEP, MOST_STEP) and is_number_within(q, -MOST_STEP, MOST_STEP)):
        raise BadWay("the numbers of a way are from -1000 to 1000")
    if p == 0 and q == 0:
        raise BadWay("the numbers of a way are not both 0")


def _farthest_of(spots, way):
    best = spots[0]
    for spot in spots:
        if _is_farther(spot, best, way):
            best = spot
    return best


def _is_farther(one, other, way):
    p, q = way
    return reach((p, q, 0), one) * other[2] > reach((p, q, 0), other) * one[2]


def _shown(lines, spot, way):
    """The whole, and pairs of fences and edges through the farthest spot that come to the whole times the way."""
    # They come to the whole times the way where with the way back they come to nothing.
    back = (-way[0], -way[1])
    through = [(number, line) for number, line in enumerate(lines) if reach(line, spot) == 0]
    for number, line in through:
        often = balance_of_two(line, back)
        if often is not None:
            return (often[1], [(number, often[0])])
    # Where no line alone shows it, two do: at a farthest spot this loop always returns.
    for (one, first), (two, second) in combinations(through, 2):
        often = balance_of_three(first, second, back)
        if often is not None:
            return (often[2], [(one, often[0]), (two, often[1])])


def twice_area(size, fences):
    """Twice the area of the land, as a pair in lowest terms."""
    told = corners(size, fences)
    over, under = 0, 1
    for one, other in zip(told, told[1:] + told[:1]):
        part = one[0] * other[1] - other[0] * one[1]
        by = one[2] * other[2]
        over, under = over * by + part * under, under * by
    shared = gcd(over, under)
    return (over // shared, under // shared)
