"""Dots and stretches, and the lines that stretches lie on."""

from arcmill.errors import NoPiece
from arcmill.fractions import greatest_divisor, minus, plus, ratio, times
from arcmill.points import before, side


def stretch(p, q):
    """The stretch between two points, or the dot where they are alike."""
    if p == q:
        return ("dot", p)
    if before(p, q):
        return ("stretch", p, q)
    return ("stretch", q, p)


def line(p, q):
    """The line ("line", a, b, d) of two unlike points: a x and b y come to d on it."""
    if p == q:
        raise NoPiece("a line is of two unlike points")
    a = minus(q[1], p[1])
    b = minus(p[0], q[0])
    d = plus(times(a, p[0]), times(b, p[1]))
    return plain_line(a[0] * b[1] * d[1], b[0] * a[1] * d[1], d[0] * a[1] * b[1])


def plain_line(a, b, d):
    """The line of three whole numbers, a and b not both 0, divided by what they have in common."""
    shared = greatest_divisor(greatest_divisor(a, b), d)
    if a < 0 or (a == 0 and b < 0):
        shared = -shared
    return ("line", a // shared, b // shared, d // shared)


def on_straight(piece, p):
    """Whether p is one of the points of a dot or a stretch."""
    if piece[0] == "dot":
        return p == piece[1]
    # Along a line the order of before is the order of the way, so it tells what lies between.
    return side(piece[1], piece[2], p) == 0 and not before(p, piece[1]) and not before(piece[2], p)


def common(one, other):
    """What two pieces, each a dot or a stretch, have in common: a piece or None."""
    if one[0] == "dot":
        return one if on_straight(other, one[1]) else None
    if other[0] == "dot":
        return other if on_straight(one, other[1]) else None
    one_line = line(one[1], one[2])
    other_line = line(other[1], other[2])
    if one_line == other_line:
        return overlap(one, other)
    p = crossing(one_line, other_line)
    if p is None or not on_straight(one, p) or not on_straight(other, p):
        return None
    return ("dot", p)


def overlap(one, other):
    """What two stretches on one line have in common."""
    start = other[1] if before(one[1], other[1]) else one[1]
    stop = one[2] if before(one[2], other[2]) else other[2]
    if before(stop, start):
        return None
    return stretch(start, stop)


def crossing(one, other):
    """The point of two unlike lines, None where they go the same way."""
    bottom = one[1] * other[2] - other[1] * one[2]
    if bottom == 0:
        return None
    x = ratio(one[3] * other[2] - other[3] * one[2], bottom)
    y = ratio(one[1] * other[3] - other[1] * one[3], bottom)
    return (x, y)


def cut(piece, p):
    """The list of the two stretches that p cuts a stretch into, or of itself alone."""
    if p == piece[1] or p == piece[2] or not on_straight(piece, p):
        return [piece]
    return [("stretch", piece[1], p), ("stretch", p, piece[2])]
