"""Fractions: tuples (top, bottom) in lowest terms, bottom from 1 on."""

from arcmill.errors import NoNumber

ONE = (1, 1)


def greatest_divisor(one, other):
    """The greatest number that divides both whole numbers; 0 where both are 0."""
    while other != 0:
        one, other = other, one % other
    return abs(one)


def ratio(top, bottom):
    """The fraction top / bottom."""
    if bottom == 0:
        raise NoNumber("the bottom is 0")
    shared = greatest_divisor(top, bottom)
    # One division then mends the sign of the bottom too.
    if bottom < 0:
        shared = -shared
    return (top // shared, bottom // shared)


def plus(one, other):
    """Both put together."""
    shared = greatest_divisor(one[1], other[1])
    # Only what the bottoms share can be left to divide by, and that is often few figures or none.
    part = one[1] // shared
    top = one[0] * (other[1] // shared) + other[0] * part
    left = greatest_divisor(top, shared)
    return (top // left, part * (other[1] // left))


def minus(one, other):
    """The other taken off the one."""
    return plus(one, (-other[0], other[1]))


def times(one, other):
    """Both multiplied."""
    # Each top is divided against the other's bottom ahead, so that no longer number is.
    falling = greatest_divisor(one[0], other[1])
    rising = greatest_divisor(other[0], one[1])
    return ((one[0] // falling) * (other[0] // rising), (one[1] // rising) * (other[1] // falling))


def over(one, other):
    """The one divided by the other."""
    if other[0] == 0:
        raise NoNumber("divided by 0")
    if other[0] < 0:
        return times(one, (-other[1], -other[0]))
    return times(one, (other[1], other[0]))


def below(one, other):
    """Whether the one is less than the other."""
    return one[0] * other[1] < other[0] * one[1]


def absolute(number):
    """The number itself, or what it lacks to 0 where it is below."""
    return (abs(number[0]), number[1])


def least(one, other):
    """The one that isn't above the other."""
    return other if below(other, one) else one


def greatest(one, other):
    """The one that isn't below the other."""
    return other if below(one, other) else one
