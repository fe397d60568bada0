"""What the tests share: exact values made by Python's own fractions, and looks at forms."""

import inspect
import random
from fractions import Fraction
from math import gcd

LONG = 10 ** 60 - 1


def fraction(value, bottom=1):
    """The tuple of a number, without the help of the program."""
    exact = Fraction(value, bottom)
    return (exact.numerator, exact.denominator)


def point(x, y):
    return (fraction(x), fraction(y))


def exact(pair):
    return Fraction(pair[0], pair[1])


def exact_point(p):
    return (exact(p[0]), exact(p[1]))


def names_of(deed):
    return list(inspect.signature(deed).parameters)


def source(seed):
    """Numbers that look like chance, the same ones in each run."""
    return random.Random(seed)


def some_number(chance, most=6, bottoms=4):
    return Fraction(chance.randint(-most, most), chance.randint(1, bottoms))


def some_point(chance, most=6, bottoms=4):
    return point(some_number(chance, most, bottoms), some_number(chance, most, bottoms))


def long_number(chance):
    return Fraction(chance.randint(-LONG, LONG), chance.randint(1, LONG))


def long_point(chance):
    return point(long_number(chance), long_number(chance))


def some_frame(chance, long=False):
    place = long_point(chance) if long else some_point(chance)
    size = abs(long_number(chance)) if long else Fraction(chance.randint(1, 6), chance.randint(1, 6))
    return (place, chance.randint(0, 3), chance.choice((1, -1)), fraction(size or 1))


def spot(quarter, share, centre=(0, 0), radius=1):
    """A point round a centre: so many quarters to the left of straight right, and a share, 0 to below 1, of one more.

    Among such points the pair (quarter, share) is in the order of going to the left.
    """
    share = Fraction(share)
    x, y = (1 - share ** 2) / (1 + share ** 2), 2 * share / (1 + share ** 2)
    for _ in range(quarter):
        x, y = -y, x
    return point(centre[0] + radius * x, centre[1] + radius * y)


def is_whole(value):
    return type(value) is int


def is_fraction(value):
    return (type(value) is tuple and len(value) == 2 and is_whole(value[0]) and is_whole(value[1])
            and value[1] >= 1 and gcd(value[0], value[1]) == 1)


def is_point(value):
    return type(value) is tuple and len(value) == 2 and all(is_fraction(part) for part in value)


def is_frame(value):
    if type(value) is not tuple or len(value) != 4:
        return False
    place, turns, hand, size = value
    return (is_point(place) and is_whole(turns) and 0 <= turns <= 3
            and is_whole(hand) and hand in (1, -1) and is_fraction(size) and size[0] > 0)
