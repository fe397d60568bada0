"""Spans (start, stop, number) along one way, and the few of them that cover a part of it.

The way is a line, with points in the order of before, or a circle gone round to the left from a point of it, with
places (lap, half, share) in the order of later.
"""

from arcmill.arcs import at_share, share_of
from arcmill.fractions import below
from arcmill.order import in_order
from arcmill.points import before, off, together

START = (0, 0, (0, 1))


def place_of(c, a, p):
    """The place of a point of a circle, gone to from a to the left round c, in lap 0."""
    share = share_of(c, a, p)
    if share is None:
        return (0, 1, (0, 1))
    # Shares rise from 0 to the point opposite, and from there rise again to 0.
    return (0, 2 if share[0] < 0 else 0, share)


def point_of(c, a, place):
    """The point that is at a place."""
    if place[1] == 1:
        return together(c, off(c, a))
    return at_share(c, a, place[2])


def sooner(one, other):
    """Whether the one place is met ahead of the other one."""
    if one[:2] != other[:2]:
        return one[:2] < other[:2]
    return below(one[2], other[2])


def laps_on(place, laps):
    """The place so many laps later."""
    return (place[0] + laps, place[1], place[2])


def arc_span(a, piece, number):
    """The span of an arc, its start in lap 0 from a."""
    start = place_of(piece[1], a, piece[2])
    stop = place_of(piece[1], a, piece[3])
    return (start, stop if sooner(start, stop) else laps_on(stop, 1), number)


def joined_spans(spans, earlier):
    """Spans joined where they touch or overlap, in order; their numbers are those of the first ones."""
    whole = []
    for span in in_order(spans, lambda one, other: earlier(one[0], other[0])):
        if whole == [] or earlier(whole[-1][1], span[0]):
            whole.append(span)
        elif earlier(whole[-1][1], span[1]):
            whole[-1] = (whole[-1][0], span[1], whole[-1][2])
    return whole


def cover(spans, start, goal, earlier):
    """A pair: the numbers of spans that lead from start to goal, and None; or None, and the first gap there.

    The gap is a pair of where no span leads on and where the next one starts, or the goal.
    """
    rows = in_order(spans, lambda one, other: earlier(one[0], other[0]))
    numbers = []
    stand = start
    best = None
    at = 0
    while earlier(stand, goal):
        while at < len(rows) and not earlier(stand, rows[at][0]):
            if best is None or earlier(best[1], rows[at][1]):
                best = rows[at]
            at += 1
        if best is None or not earlier(stand, best[1]):
            ahead = goal if at == len(rows) or earlier(goal, rows[at][0]) else rows[at][0]
            return (None, (stand, ahead))
        numbers.append(best[2])
        stand = best[1]
    return (numbers, None)


def cover_stretch(pieces, numbers, piece):
    """The cover of a stretch by those of its line whose numbers are told."""
    spans = [(pieces[number][1], pieces[number][2], number) for number in numbers]
    return cover(spans, piece[1], piece[2], before)


def cover_round(pieces, numbers, piece):
    """The cover of an arc or ring by the arcs of its circle whose numbers are told; the gap has points, too."""
    c = piece[1]
    a = piece[2]
    spans = []
    for number in numbers:
        start, stop, same = arc_span(a, pieces[number], number)
        spans.append((start, stop, same))
        # An arc across a leads on from there, too, as one that started a lap earlier.
        spans.append((laps_on(start, -1), laps_on(stop, -1), same))
    goal = laps_on(START, 1) if piece[0] == "ring" else place_of(c, a, piece[3])
    found, gap = cover(spans, START, goal, sooner)
    if gap is None:
        return (found, None)
    return (None, (point_of(c, a, gap[0]), point_of(c, a, gap[1])))
