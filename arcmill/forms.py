"""Which tuples are rows by their form, each looked at by itself."""

from arcmill.fractions import greatest_divisor
from arcmill.points import MIDDLE, farther

MOST_AGAIN = 12
MOST_IN_GROW = 12

NUMBERS = {
    "go": 1,
    "skip": 1,
    "side": 2,
    "dot": 0,
    "left": 0,
    "right": 0,
    "round": 0,
    "mirror": 0,
    "grow": 1,
    "quarter": 1,
    "half": 1,
    "arc": 4,
}


def is_whole(thing):
    """Whether a thing is a whole number; a truth is none."""
    return isinstance(thing, int) and not isinstance(thing, bool)


def is_reduced(top, bottom):
    """Whether two whole numbers are top and bottom of a fraction."""
    return bottom >= 1 and greatest_divisor(top, bottom) == 1


def is_fraction(thing):
    """Whether a thing is a fraction."""
    if not isinstance(thing, tuple) or len(thing) != 2:
        return False
    return is_whole(thing[0]) and is_whole(thing[1]) and is_reduced(thing[0], thing[1])


def numbers_behind(word):
    """How many fractions stand behind the word of a row without a block, None where there is no such row."""
    return NUMBERS.get(word)


def may_grow(number):
    """Whether a grow may have a fraction."""
    return 1 <= number[0] <= MOST_IN_GROW and number[1] <= MOST_IN_GROW


def is_plain_row(thing):
    """Whether a thing is a row without a block."""
    if not is_worded(thing) or numbers_behind(thing[0]) != len(thing) - 1:
        return False
    if not all([is_fraction(number) for number in thing[1:]]):
        return False
    if thing[0] == "grow":
        return may_grow(thing[1])
    if thing[0] == "quarter" or thing[0] == "half":
        return thing[1][0] != 0
    return thing[0] != "arc" or is_bend(thing)


def is_worded(thing):
    """Whether a thing is a tuple with a text ahead."""
    return isinstance(thing, tuple) and len(thing) > 0 and isinstance(thing[0], str)


def is_bend(row):
    """Whether the centre of an arc isn't where the pen stands, and its place is as far from it."""
    c = (row[1], row[2])
    return c != MIDDLE and farther(c, MIDDLE, (row[3], row[4])) == 0


def is_block(thing):
    """Whether a thing has the form of a block's own row, a tuple of whatever things behind it."""
    if not is_worded(thing) or not isinstance(thing[-1], tuple):
        return False
    if thing[0] == "again":
        return len(thing) == 3 and is_whole(thing[1]) and 0 <= thing[1] <= MOST_AGAIN
    return len(thing) == 2 and (thing[0] == "keep" or thing[0] == "ever")
