"""The land: what fences leave of a field, told by its corners, or why nothing is left."""

from itertools import combinations

from landlines.balance import balance_of_three, balance_of_two
from landlines.fences import fences_and_edges, meeting, reach
from landlines.spots import turn


def holds(size, fences, spot):
    """Whether a spot is one of the land."""
    return _is_kept(fences_and_edges(size, fences), spot)


def corners(size, fences):
    """A new list of the land's corners, from the lowest one on round it against the clock."""
    return corners_between(fences_and_edges(size, fences))


def corners_between(lines):
    """The corners, in order, of the land that fences and edges leave."""
    found = _kept_meetings(lines)
    if not found:
        return []
    first = _lowest(found)
    others = [spot for spot in found if spot != first]
    # All others lie less than half a turn apart, as seen from the lowest one, and
    # no two of them in one line with it: each has just those before it on the right.
    return [first, *sorted(others, key=lambda other: _many_on_the_right(first, other, others))]


def _kept_meetings(lines):
    found = []
    for one, other in combinations(lines, 2):
        spot = meeting(one, other)
        if spot is not None and spot not in found and _is_kept(lines, spot):
            found.append(spot)
    return found


def _is_kept(lines, spot):
    return all(reach(line, spot) <= 0 for line in lines)


def _lowest(spots):
    lowest = spots[0]
    for spot in spots:
        if _is_ahead(spot, lowest):
            lowest = spot
    return lowest


def _is_ahead(one, other):
    """Whether one lies lower than the other, or just as low and farther to the left."""
    height = one[1] * other[2] - other[1] * one[2]
    if height != 0:
        return height < 0
    return one[0] * other[2] < other[0] * one[2]


def _many_on_the_right(first, spot, others):
    return len([other for other in others if turn(first, spot, other) < 0])


def nothing(size, fences):
    """Which fences and edges leave nothing, as pairs of a number and how often; None where some land is left."""
    numbered = list(enumerate(fences_and_edges(size, fences)))
    for (one, first), (two, second) in combinations(numbered, 2):
        often = balance_of_two(first, second)
        if often is not None and _come_below_zero((first, second), often):
            return list(zip((one, two), often))
    # Where no two do, three that do are enough, and no two of these run the same way.
    for (one, first), (two, second), (three, third) in combinations(numbered, 3):
        often = balance_of_three(first, second, third)
        if often is not None and _come_below_zero((first, second, third), often):
            return list(zip((one, two, three), often))
    return None


def _come_below_zero(fences, often):
    return sum([many * fence[2] for fence, many in zip(fences, often)]) < 0
