"""Where a point that goes straight on is on a piece, and so which powers of a plain map lead a piece to a point."""

from arcmill.arcs import on
from arcmill.fractions import below, greatest, least, minus, over, plus, times
from arcmill.points import cross_product, dot_product, far, grown, off, together
from arcmill.steps import first_step, last_step


def powers_between(kind, piece, point):
    """Pairs (first, last) of whole numbers: the powers from first to last of a plain map lead the piece to the point.

    The kind is on, or smaller with another middle than the point. First is None where there is no least power.
    """
    found = []
    for low, high in meetings_back(kind, piece, point):
        endless = kind[0] == "smaller" and low[0] <= 0
        start = None if endless else first_step(kind, low)
        stop = last_step(kind, high)
        if endless or start <= stop:
            found.append((start, stop))
    return found


def meetings_back(kind, piece, point):
    """Pairs of numbers, as in meetings, between which the steps are whose powers of a plain map undone lead there."""
    if kind[0] == "on":
        return meetings(piece, point, grown(kind[1], (-1, 1)))
    pairs = meetings(piece, kind[1], off(point, kind[1]))
    return [pair for pair in pairs if pair[1][0] > 0]


def meetings(piece, start, way):
    """Pairs (low, high) of numbers: start and a number t times the way together are on the piece where t is between.

    The way isn't the middle point. Numbers that are no fractions are left out.
    """
    if piece[0] == "dot":
        return meetings_with_dot(piece[1], start, way)
    if piece[0] == "stretch":
        return meetings_with_stretch(piece, start, way)
    # The square of the distance from the centre, less that of the radius, is a t t + 2 b t + c.
    away = off(start, piece[1])
    a = dot_product(way, way)
    b = dot_product(away, way)
    c = minus(dot_product(away, away), far(piece[1], piece[2]))
    root = root_of(minus(times(b, b), times(a, c)))
    if root is None:
        return []
    found = []
    for t in [over(minus(root, b), a), over(plus(root, b), (-a[0], a[1]))]:
        if (t, t) not in found and on(piece, together(start, grown(way, t))):
            found.append((t, t))
    return found


def meetings_with_dot(p, start, way):
    """The meetings with a dot, one or none."""
    there = off(p, start)
    if cross_product(way, there)[0] != 0:
        return []
    t = over(dot_product(way, there), dot_product(way, way))
    return [(t, t)]


def meetings_with_stretch(piece, start, way):
    """The meetings with a stretch, one or none."""
    length = off(piece[2], piece[1])
    there = off(piece[1], start)
    turn = cross_product(way, length)
    if turn[0] == 0:
        ends = meetings_with_dot(piece[1], start, way) + meetings_with_dot(piece[2], start, way)
        return [(least(ends[0][0], ends[1][0]), greatest(ends[0][0], ends[1][0]))] if ends != [] else []
    share = over(cross_product(there, way), turn)
    if share[0] < 0 or below((1, 1), share):
        return []
    t = over(cross_product(there, length), turn)
    return [(t, t)]


def root_of(number):
    """The fraction from 0 on whose square a fraction is, or None."""
    if number[0] < 0:
        return None
    top = whole_root(number[0])
    bottom = whole_root(number[1])
    if top * top != number[0] or bottom * bottom != number[1]:
        return None
    return (top, bottom)


def whole_root(number):
    """The greatest whole number whose square isn't above a whole number from 0 on."""
    if number == 0:
        return 0
    # It begins above the root and comes down to it, never below.
    root = 1 << (number.bit_length() + 1) // 2
    lower = (root + number // root) // 2
    while lower < root:
        root = lower
        lower = (root + number // root) // 2
    return root
