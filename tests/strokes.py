"""Strokes for the tests, made without the help of the program."""

from fractions import Fraction

from tests.helpers import exact_point, point


def way_of(*places):
    """The closed stroke of straight legs along places."""
    points = [point(*place) for place in places]
    return [("straight", p, q) for p, q in zip(points, points[1:] + points[:1]) if p != q]


def bend(c, p, q, way=1):
    return ("bend", point(*c), point(*p), point(*q), way)


def ring(c, p, way=1):
    """The stroke of one whole bend."""
    return [bend(c, p, p, way)]


def turned_about(strokes):
    """All strokes gone along the other way."""
    about = []
    for stroke in strokes:
        about.append([("straight", leg[2], leg[1]) if leg[0] == "straight" else ("bend", leg[1], leg[3], leg[2], -leg[4])
                      for leg in reversed(stroke)])
    return about


def round_from(p, c, t, way):
    """The place to which a bend leads from p round c, by the number t from 0 on or below it, to the left."""
    (x, y), (cx, cy) = p, c
    u, v = (1 - t ** 2) / (1 + t ** 2), 2 * t / (1 + t ** 2)
    x, y = x - cx, y - cy
    return (cx + u * x - v * y * way, cy + v * x * way + u * y)


def some_stroke(chance, legs, bends=True, most=5):
    """A closed stroke of some legs, at last a straight one."""
    at = start = (Fraction(chance.randint(-most, most)), Fraction(chance.randint(-most, most)))
    stroke = []
    while len(stroke) < legs:
        if bends and chance.random() < .5:
            c = (at[0] + chance.randint(-2, 2), at[1] + chance.randint(1, 2))
            way, t = chance.choice((1, -1)), Fraction(chance.choice((1, 1, -1, 2, -2, 3, 0)), chance.choice((1, 2, 3)))
            stop = at if chance.random() < .15 else round_from(at, c, t, way)
            stroke.append(bend(c, at, stop, way))
        else:
            stop = (Fraction(chance.randint(-most, most)), Fraction(chance.randint(-most, most)))
            if stop == at:
                continue
            stroke.append(("straight", point(*at), point(*stop)))
        at = stop
    if at != start:
        stroke.append(("straight", point(*at), point(*start)))
    return stroke


def floats(p):
    return complex(*[float(part) for part in exact_point(p)])
