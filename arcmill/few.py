"""Few pieces: carriers, joined pieces, lists of pieces with the same points, and chains."""

from arcmill.arcs import on
from arcmill.covers import arc_span, cover_round, cover_stretch, joined_spans, laps_on, point_of, sooner
from arcmill.points import before, far, farther, side
from arcmill.stretches import line


def carrier(piece):
    """The line or circle that a piece lies on, None of a dot."""
    if piece[0] == "dot":
        return None
    if piece[0] == "stretch":
        return line(piece[1], piece[2])
    return ("circle", piece[1], far(piece[1], piece[2]))


def joined(pieces):
    """The fewest pieces that have just the points of these, in the order of tuples."""
    groups = {}
    for piece in pieces:
        if piece[0] != "dot":
            groups.setdefault(carrier(piece), []).append(piece)
    whole = []
    for each in groups:
        whole += joined_stretches(groups[each]) if each[0] == "line" else joined_arcs(groups[each])
    return sorted(whole + lone_dots(pieces, whole))


def lone_dots(pieces, others):
    """The dots of a list that lie on none of the others, none twice."""
    dots = {}
    for piece in pieces:
        if piece[0] == "dot" and piece not in dots and not any([on(other, piece[1]) for other in others]):
            dots[piece] = True
    return list(dots)


def joined_stretches(stretches):
    """Stretches of one line, joined where they touch or overlap."""
    spans = [(piece[1], piece[2], None) for piece in stretches]
    return [("stretch", p, q) for p, q, number in joined_spans(spans, before)]


def joined_arcs(pieces):
    """Arcs and rings of one circle, joined; a ring has the first point of the first piece."""
    c = pieces[0][1]
    a = pieces[0][2]
    ring = [("ring", c, a)]
    if any([piece[0] == "ring" for piece in pieces]):
        return ring
    runs = joined_spans([arc_span(a, piece, None) for piece in pieces], sooner)
    start, stop, number = runs[-1]
    if stop[0] == 1:
        # The last run goes on across a, so it takes in the first ones, as far as it comes to them.
        stop = laps_on(stop, -1)
        while len(runs) > 1 and not sooner(stop, runs[0][0]):
            stop = runs[0][1] if sooner(stop, runs[0][1]) else stop
            runs = runs[1:]
        if len(runs) == 1 and not sooner(stop, start):
            return ring
        runs[-1] = (start, stop, number)
    return [("arc", c, point_of(c, a, run[0]), point_of(c, a, run[1])) for run in runs]


def alike_pieces(one, other):
    """Whether two lists of pieces have the same points."""
    return without_ring_points(joined(one)) == without_ring_points(joined(other))


def without_ring_points(pieces):
    """The pieces in order, a ring told by its circle instead of a point of it."""
    return sorted([carrier(piece) if piece[0] == "ring" else piece for piece in pieces])


def same_carrier(one, other):
    """Whether two pieces, neither a dot, lie on one line or circle."""
    if one[0] == "stretch" or other[0] == "stretch":
        return one[0] == other[0] and side(one[1], one[2], other[1]) == 0 and side(one[1], one[2], other[2]) == 0
    return one[1] == other[1] and farther(one[1], one[2], other[2]) == 0


def chain(pieces, piece):
    """A list of numbers of the pieces that lead along a piece, None where there is none."""
    if piece[0] == "dot":
        for number, other in enumerate(pieces):
            if on(other, piece[1]):
                return [number]
        return None
    numbers = on_its_carrier(pieces, piece)
    if piece[0] == "stretch":
        return cover_stretch(pieces, numbers, piece)[0]
    for number in numbers:
        if pieces[number][0] == "ring":
            return [number]
    return cover_round(pieces, numbers, piece)[0]


def on_its_carrier(pieces, piece):
    """The numbers of the pieces that lie on the line or circle of a stretch, arc or ring."""
    return [number for number, other in enumerate(pieces) if other[0] != "dot" and same_carrier(piece, other)]
