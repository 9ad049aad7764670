"""Spots: exact places, told as (x, y, by)."""

from math import gcd

from landlines.checks import is_number
from landlines.errors import BadSpot


def spot_of(x, y, by):
    """The spot that lies x divided by `by` to the right and y divided by `by` up."""
    if not (is_number(x) and is_number(y) and is_number(by)):
        raise BadSpot("a spot is told by three numbers")
    if by == 0:
        raise BadSpot("the last number of a spot is not 0")
    shared = gcd(x, y, by)
    if by < 0:
        # The gcd is never below 0, and a spot's last number has to come out above 0.
        shared = -shared
    return (x // shared, y // shared, by // shared)


def turn(one, two, three):
    """1 where the third spot lies left of the way from the first to the second, -1 right, else 0."""
    side = _twice_triangle(one, two, three)
    if side > 0:
        return 1
    if side < 0:
        return -1
    return 0


def _twice_triangle(one, two, three):
    # Twice the signed area of the triangle, times all three last numbers. As
    # these are above 0, the sign is the area's own and nothing is divided.
    x, y, by = one
    return (
        x * (two[1] * three[2] - three[1] * two[2])
        - y * (two[0] * three[2] - three[0] * two[2])
        + by * (two[0] * three[1] - three[0] * two[1])
    )
