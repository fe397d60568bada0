"""Two pictures held against each other: alike, with papers, or unlike, with a point."""

from arcmill.arcs import at_share, quarters, share_of
from arcmill.asked import asked
from arcmill.errors import TooMuch
from arcmill.fractions import times
from arcmill.frames import led
from arcmill.kin import evened
from arcmill.papers import papers_of
from arcmill.points import between
from arcmill.steps import stepped

MOST_REFUSED = 8


def alike(one, other):
    """("alike", even, (ones, others)) of two kin drawings with the same points, else what parts them."""
    even = evened(one, other)
    kind, own, held = even
    ones, holes = papers_of(kind, own, held)
    others, other_holes = papers_of(kind, held, own)
    if holes == [] and other_holes == []:
        return ("alike", even, (ones, others))
    for hole in holes:
        told = unlike(kind, hole, 0, one, other)
        if told is not None:
            return told
    for hole in other_holes:
        told = unlike(kind, hole, 1, other, one)
        if told is not None:
            return told
    raise TooMuch("no point that parts them can be asked")


def unlike(kind, hole, which, own, other):
    """("unlike", which, point, inside, outside) by a point of the hole, a round and a piece, that the other hasn't.

    None where such points can't be asked: those of arcs may lie nearer to the middle of an end than its rounds go.
    """
    frame = stepped(kind, hole[0])
    parts = 2
    refused = 0
    while refused < MOST_REFUSED:
        point = led(frame, point_within(hole[1], parts))
        try:
            outside = asked(other, point)
            # A piece that crosses the hole may have this very point, so it may take some.
            if outside[0] == "out":
                return ("unlike", which, point, asked(own, point), outside)
        except TooMuch:
            refused += 1
        parts += 1
    return None


def point_within(piece, parts):
    """A point of a piece, between its ends where it is no dot, another one for each number of parts from 2 on."""
    if piece[0] == "dot":
        return piece[1]
    if piece[0] == "stretch":
        return between(piece[1], piece[2], (1, parts))
    c = piece[1]
    a, b = quarters(piece)[:2]
    return at_share(c, a, times(share_of(c, a, b), (1, parts)))
