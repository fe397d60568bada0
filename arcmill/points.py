"""Points: tuples (x, y) of fractions; x goes to the right, y up."""

from arcmill.fractions import below, minus, plus, times

MIDDLE = ((0, 1), (0, 1))


def together(p, q):
    """Both put together."""
    return (plus(p[0], q[0]), plus(p[1], q[1]))


def off(p, q):
    """q taken off p."""
    return (minus(p[0], q[0]), minus(p[1], q[1]))


def grown(p, number):
    """p times a fraction."""
    return (times(p[0], number), times(p[1], number))


def turned(p, quarters):
    """p turned around the middle point by quarters to the left, below 0 to the right."""
    x, y = p
    left = quarters % 4
    # Four quarters lead back, so at most three are gone, whatever their count.
    while left > 0:
        x, y = (-y[0], y[1]), x
        left -= 1
    return (x, y)


def dot_product(p, q):
    """The products of both x and of both y put together."""
    return plus(times(p[0], q[0]), times(p[1], q[1]))


def cross_product(p, q):
    """Above 0 where q, seen from the middle point, is at the left of p."""
    return minus(times(p[0], q[1]), times(p[1], q[0]))


def far(p, q):
    """The square of the distance."""
    way = off(p, q)
    return dot_product(way, way)


def on_one_bottom(p):
    """Whole numbers (x, y, d): p is (x / d, y / d)."""
    x, y = p
    if x[1] == y[1]:
        return (x[0], y[0], x[1])
    return (x[0] * y[1], y[0] * x[1], x[1] * y[1])


def side(a, b, p):
    """1 where p is at the left of who goes from a to b, -1 at the right, else 0."""
    # Only the sign is asked, so nothing is divided, however many figures there are.
    ax, ay, ad = on_one_bottom(a)
    bx, by, bd = on_one_bottom(b)
    px, py, pd = on_one_bottom(p)
    return sign(px * (ay * bd - by * ad) - py * (ax * bd - bx * ad) + pd * (ax * by - bx * ay))


def sign(number):
    """1, 0 or -1, of a whole number."""
    if number > 0:
        return 1
    return 0 if number == 0 else -1


def farther(c, p, q):
    """1 where p is farther from c than q is, -1 where it is nearer, 0 where both are as far."""
    p_square, pd = scaled_far(c, p)
    q_square, qd = scaled_far(c, q)
    return sign(p_square * qd * qd - q_square * pd * pd)


def scaled_far(c, p):
    """A pair (square, d): the square of the distance, taken d d times and c's own bottom two times, and d."""
    cx, cy, cd = on_one_bottom(c)
    px, py, pd = on_one_bottom(p)
    x = px * cd - cx * pd
    y = py * cd - cy * pd
    return (x * x + y * y, pd)


def between(p, q, share):
    """The point at a share of the straight way from p to q: 0 is p, 1 is q."""
    return together(p, grown(off(q, p), share))


def before(p, q):
    """Whether p has the less x, or the same x and the less y."""
    if p[0] == q[0]:
        return below(p[1], q[1])
    return below(p[0], q[0])
