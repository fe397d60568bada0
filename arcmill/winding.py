"""How often strokes wind round a point."""

from arcmill.arcs import at_share, on, quarters, share_of
from arcmill.fractions import below, times
from arcmill.points import farther, side
from arcmill.rows import piece_of
from arcmill.stretches import on_straight, stretch


def winding(strokes, point):
    """How often who looks from the point after one that goes along all legs turns to the left; None on a leg."""
    turns = 0
    for stroke in strokes:
        for leg in stroke:
            if on(piece_of(leg), point):
                return None
            turns += crossings(leg, point)
    return turns


def inside(strokes, rule, point):
    """Whether a point is inside by the rule "odd" or "wound", None on a leg."""
    turns = winding(strokes, point)
    if turns is None:
        return None
    return is_in(rule, turns)


def is_in(rule, turns):
    """Whether points that are wound round so often are inside by a rule."""
    return turns % 2 == 1 if rule == "odd" else turns != 0


def crossings(leg, point):
    """What a leg brings to the winding of closed strokes: crossings of the level way from the point to the right."""
    if leg[0] == "straight":
        return crossing(leg[1], leg[2], point)
    piece = piece_of(leg)
    bits = quarters(piece)
    return leg[4] * sum([bit_crossings(piece[1], a, b, point) for a, b in zip(bits, bits[1:])])


def crossing(p, q, point):
    """1 where the straight way from p to q goes up at the right of a point that isn't on it, -1 where it goes down."""
    # A level that is just met counts as below, so that legs which meet there count once together.
    rises = below(point[1], q[1])
    if below(point[1], p[1]) == rises:
        return 0
    way = 1 if rises else -1
    return way if side(p, q, point) == way else 0


def bit_crossings(c, a, b, point):
    """The crossings of an arc to the left from a to b, a quarter at most, that a point isn't on."""
    if on_straight(stretch(a, b), point):
        # The straight way from a to b can't be taken instead, but one by a third point of the arc can.
        m = at_share(c, a, times(share_of(c, a, b), (1, 2)))
        return crossing(a, m, point) + crossing(m, b, point)
    # Between the arc and the straight way the one leads round the point, the other one doesn't.
    within = side(a, b, point) == -1 and farther(c, point, a) == -1
    return crossing(a, b, point) + (1 if within else 0)
