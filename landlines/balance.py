"""How often fences, or ways, are taken so that they come to nothing when added up.

Only the first two numbers of each are looked at, so a way may stand where a fence may.
"""

from math import gcd


def balance_of_two(one, other):
    """How often each of two is taken, once or more, so that both sums come to 0; None where that can't be."""
    if _cross(one, other) != 0 or one[0] * other[0] + one[1] * other[1] > 0:
        return None
    first = gcd(other[0], other[1])
    second = gcd(one[0], one[1])
    shared = gcd(first, second)
    return (first // shared, second // shared)


def balance_of_three(one, two, three):
    """The same of three of which no two run the same way; None where that can't be."""
    first = _cross(two, three)
    second = _cross(three, one)
    third = _cross(one, two)
    # Taken so often, any three come to 0, but perhaps some of them less than once.
    shared = gcd(first, second, third)
    if max(first, second, third) < 0:
        shared = -shared
    elif min(first, second, third) <= 0:
        return None
    return (first // shared, second // shared, third // shared)


def _cross(one, other):
    return one[0] * other[1] - one[1] * other[0]
