"""Arcs and rings, and what is asked of points round a centre."""

from arcmill.errors import NoPiece
from arcmill.fractions import ONE, minus, over, plus, times
from arcmill.points import cross_product, dot_product, farther, off, side, together, turned
from arcmill.stretches import on_straight


def arc(c, p, q):
    """The arc round c from p to the left to q, or the ring where these are alike."""
    if c == p or c == q:
        raise NoPiece("the centre is one of the points")
    if farther(c, p, q) != 0:
        raise NoPiece("the points are not as far from the centre")
    if p == q:
        return ("ring", c, p)
    return ("arc", c, p, q)


def on(piece, p):
    """Whether p is one of the points of a piece of any kind."""
    if piece[0] == "dot" or piece[0] == "stretch":
        return on_straight(piece, p)
    if farther(piece[1], p, piece[2]) != 0:
        return False
    return piece[0] == "ring" or not ahead(piece[1], piece[2], piece[3], p)


def ahead(c, a, p, q):
    """Whether p is met earlier than q by who goes from a to the left round c."""
    if p == a:
        return q != a
    # Of three points of one circle this tells the order by itself, wherever its centre is.
    return side(a, p, q) == 1


def at_share(c, a, t):
    """The point at the fraction t round c from a: 0 is a itself, 1 a quarter to the left."""
    square = times(t, t)
    bottom = plus(ONE, square)
    u = over(minus(ONE, square), bottom)
    v = over(plus(t, t), bottom)
    x, y = off(a, c)
    return together(c, (minus(times(u, x), times(v, y)), plus(times(v, x), times(u, y))))


def share_of(c, a, p):
    """The fraction at which p is round c from a, None where p is opposite a."""
    start = off(a, c)
    stop = off(p, c)
    # v by 1 and u together is t, and u and v are these products by the square of the radius.
    bottom = plus(dot_product(start, start), dot_product(start, stop))
    if bottom[0] == 0:
        return None
    return over(cross_product(start, stop), bottom)


def quarters(piece):
    """The points of an arc or ring: its first one, those by quarters on its way, its last one."""
    c = piece[1]
    start = piece[2]
    points = [start]
    for k in range(1, 4):
        p = together(c, turned(off(start, c), k))
        if piece[0] == "ring" or ahead(c, start, p, piece[3]):
            points.append(p)
    points.append(start if piece[0] == "ring" else piece[3])
    return points
