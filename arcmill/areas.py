"""Strokes cut to straight legs, and the area of what is inside."""

from arcmill.arcs import at_share, quarters, share_of
from arcmill.bands import area_inside
from arcmill.errors import TooMuch
from arcmill.fractions import ONE, minus, over, plus, times
from arcmill.points import far
from arcmill.rows import piece_of

MOST_LEGS = 24


def cut_strokes(strokes, parts):
    """The strokes with straight legs alone, each quarter of a bend cut by so many parts."""
    return [cut_stroke(stroke, parts) for stroke in strokes]


def cut_stroke(stroke, parts):
    """A stroke with straight legs alone."""
    legs = []
    for leg in stroke:
        if leg[0] == "straight":
            legs.append(leg)
        else:
            points = cut_points(piece_of(leg), parts)
            if leg[4] == -1:
                points = points[::-1]
            legs += [("straight", p, q) for p, q in zip(points, points[1:])]
    return legs


def cut_points(piece, parts):
    """The points at which an arc or ring is cut, its first and last one, too, in order to the left."""
    c = piece[1]
    ends = quarters(piece)
    points = []
    for a, b in zip(ends, ends[1:]):
        share = share_of(c, a, b)
        points += [at_share(c, a, times(share, over((k, 1), (parts, 1)))) for k in range(parts)]
    return points + [ends[-1]]


def slivers(strokes, parts):
    """The sum of the slivers of all legs that come of bends."""
    whole = (0, 1)
    for stroke in strokes:
        for leg in stroke:
            if leg[0] == "bend":
                whole = plus(whole, bend_slivers(piece_of(leg), parts))
    return whole


def bend_slivers(piece, parts):
    """The sum of the slivers of an arc or ring."""
    c = piece[1]
    points = cut_points(piece, parts)
    whole = (0, 1)
    for p, q in zip(points, points[1:]):
        u = share_of(c, p, q)
        square = times(u, u)
        whole = plus(whole, over(times(square, u), plus(ONE, square)))
    return times(whole, far(c, piece[2]))


def area(strokes, rule, parts):
    """The pair (low, high) between which the area of what is inside strokes by a rule lies."""
    if how_many_legs(strokes, parts) > MOST_LEGS:
        raise TooMuch("the cut strokes have too many legs")
    legs = []
    for stroke in cut_strokes(strokes, parts):
        legs += stroke
    middle = area_inside(legs, rule)
    room = slivers(strokes, parts)
    low = minus(middle, room)
    return ((0, 1) if low[0] < 0 else low, plus(middle, room))


def how_many_legs(strokes, parts):
    """How many legs the cut strokes have."""
    many = 0
    for stroke in strokes:
        for leg in stroke:
            many += 1 if leg[0] == "straight" else parts * (len(quarters(piece_of(leg))) - 1)
    return many
