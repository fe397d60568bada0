"""Points: tuples (x, y) of fractions; x goes to the right, y up."""

from arcmill.fractions import below, minus, plus, times

MIDDLE = ((0, 1), (0, 1))


def together(p, q):
    """Both put together."""
    return (plus(p[0], q[0]), plus(p[1], q[1]))


def off(p, q):
    """q taken off p."""
    return (minus(p[0], q[0]), minus(p[1], q[1]))


def grown(p, number):
    """p times a fraction."""
    return (times(p[0], number), times(p[1], number))


def turned(p, quarters):
    """p turned around the middle point by quarters to the left, below 0 to the right."""
    x, y = p
    left = quarters % 4
    # Four quarters lead back, so at most three are gone, whatever their count.
    while left > 0:
        x, y = (-y[0], y[1]), x
        left -= 1
    return (x, y)


def dot_product(p, q):
    """The products of both x and of both y put together."""
    return plus(times(p[0], q[0]), times(p[1], q[1]))


def cross_product(p, q):
    """Above 0 where q, seen from the middle point, is at the left of p."""
    return minus(times(p[0], q[1]), times(p[1], q[0]))


def far(p, q):
    """The square of the distance."""
    way = off(p, q)
    return dot_product(way, way)


def side(a, b, p):
    """1 where p is at the left of who goes from a to b, -1 at the right, else 0."""
    top = cross_product(off(b, a), off(p, a))[0]
    if top > 0:
        return 1
    if top < 0:
        return -1
    return 0


def before(p, q):
    """Whether p has the less x, or the same x and the less y."""
    if p[0] == q[0]:
        return below(p[1], q[1])
    return below(p[0], q[0])
