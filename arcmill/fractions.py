"""Fractions: tuples (top, bottom) in lowest terms, bottom from 1 on."""

from arcmill.errors import NoNumber

ONE = (1, 1)


def greatest_divisor(one, other):
    """The greatest number that divides both whole numbers; 0 where both are 0."""
    while other != 0:
        one, other = other, one % other
    return abs(one)


def ratio(top, bottom):
    """The fraction top / bottom."""
    if bottom == 0:
        raise NoNumber("the bottom is 0")
    shared = greatest_divisor(top, bottom)
    # One division then mends the sign of the bottom too.
    if bottom < 0:
        shared = -shared
    return (top // shared, bottom // shared)


def plus(one, other):
    """Both put together."""
    return ratio(one[0] * other[1] + other[0] * one[1], one[1] * other[1])


def minus(one, other):
    """The other taken off the one."""
    return ratio(one[0] * other[1] - other[0] * one[1], one[1] * other[1])


def times(one, other):
    """Both multiplied."""
    return ratio(one[0] * other[0], one[1] * other[1])


def over(one, other):
    """The one divided by the other."""
    return ratio(one[0] * other[1], one[1] * other[0])


def below(one, other):
    """Whether the one is less than the other."""
    return one[0] * other[1] < other[0] * one[1]
