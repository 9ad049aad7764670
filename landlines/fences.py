"""Fences: straight lines that keep one side, told as (a, b, c)."""

from landlines.checks import check_size, is_number_within
from landlines.errors import BadFence, TooMany
from landlines.spots import spot_of

MOST_SLOPE = 1000
MOST_OFFSET = 1000000
MOST_FENCES = 16


def fence_of(a, b, c):
    """The fence that keeps the spots at which a times x and b times y come to c or less."""
    if not (_is_slope(a) and _is_slope(b)):
        raise BadFence("the first two numbers of a fence are from -1000 to 1000")
    if a == 0 and b == 0:
        raise BadFence("the first two numbers of a fence are not both 0")
    if not is_number_within(c, -MOST_OFFSET, MOST_OFFSET):
        raise BadFence("the last number of a fence is from -1000000 to 1000000")
    return (a, b, c)


def _is_slope(value):
    return is_number_within(value, -MOST_SLOPE, MOST_SLOPE)


def check_fence(value):
    """Refuses with BadFence what is no fence."""
    if not (isinstance(value, tuple) and len(value) == 3):
        raise BadFence("a fence is a tuple of three numbers")
    a, b, c = value
    fence_of(a, b, c)


def edges(size):
    """A new list of the four edges of a field: left, lower, right, upper."""
    check_size(size)
    return [(-1, 0, 0), (0, -1, 0), (1, 0, size), (0, 1, size)]


def fences_and_edges(size, fences):
    """A new list of the fences and, behind them, the edges: each stands at its number."""
    behind = edges(size)
    if len(fences) > MOST_FENCES:
        raise TooMany("a list of fences has at most 16")
    for fence in fences:
        check_fence(fence)
    return [*fences, *behind]


def reach(fence, spot):
    """How far a spot lies beyond a fence's line: the fence keeps it at 0 or less."""
    a, b, c = fence
    x, y, by = spot
    return a * x + b * y - c * by


def meeting(one, other):
    """The spot in which the lines of two fences meet, None where they run the same way."""
    a, b, c = one
    p, q, r = other
    by = a * q - b * p
    if by == 0:
        return None
    return spot_of(c * q - b * r, a * r - c * p, by)
