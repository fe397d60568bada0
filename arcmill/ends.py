"""How far ends reach, and the rounds of an end that may have a point."""

from arcmill.errors import TooMuch
from arcmill.fractions import absolute, below, greatest, least, minus, over, plus, times
from arcmill.movers import count, kind
from arcmill.points import dot_product, far, off
from arcmill.steps import most_times

MOST_ROUNDS = 1000


def heights(piece, w):
    """The pair of a low and a high number between which the heights of a piece's points lie."""
    if piece[0] == "dot" or piece[0] == "stretch":
        one = dot_product(piece[1], w)
        other = dot_product(piece[-1], w)
        return (least(one, other), greatest(one, other))
    u, v = off(piece[2], piece[1])
    room = times(plus(absolute(u), absolute(v)), plus(absolute(w[0]), absolute(w[1])))
    middle = dot_product(piece[1], w)
    return (minus(middle, room), plus(middle, room))


def heights_of_all(pieces, w):
    """The pair of the lowest and the highest of the heights of pieces, one at least."""
    low, high = heights(pieces[0], w)
    for piece in pieces[1:]:
        piece_low, piece_high = heights(piece, w)
        low = least(low, piece_low)
        high = greatest(high, piece_high)
    return (low, high)


def farthest(piece, middle):
    """A number that no square of a distance from the middle to a piece's points is above."""
    if piece[0] == "dot" or piece[0] == "stretch":
        return greatest(far(piece[1], middle), far(piece[-1], middle))
    both = plus(far(piece[1], middle), far(piece[1], piece[2]))
    return plus(both, both)


def farthest_of_all(pieces, middle):
    """The greatest of these numbers of pieces, one at least."""
    best = farthest(pieces[0], middle)
    for piece in pieces[1:]:
        best = greatest(best, farthest(piece, middle))
    return best


def reach(end):
    """The reach of an end: None, a pair (low, high) or a fraction, by its kind."""
    sort = kind(end[0])
    pieces = [row[0] for row in end[3]]
    if sort[0] == "on":
        return heights_of_all(pieces, sort[1])
    if sort[0] == "smaller":
        return farthest_of_all(pieces, sort[1])
    return None


def rise(frame, w):
    """The height that a map of the kind on, whose plain map leads on by w, comes to in one round."""
    return over(dot_product(w, w), (count(frame), 1))


def span(end, point):
    """The pair (first, behind) of rounds: none ahead of first, and none from behind on, has the point."""
    sort = kind(end[0])
    if sort[0] == "on":
        rounds = span_on(end, sort[1], point)
    elif sort[0] == "smaller":
        rounds = (0, span_smaller(end, sort[1], point))
    else:
        rounds = (0, count(end[0]))
    if rounds[1] - rounds[0] > MOST_ROUNDS:
        raise TooMuch("the span has too many rounds")
    return rounds


def span_on(end, w, point):
    """The span of an end of the kind on."""
    low, high = reach(end)
    step = rise(end[0], w)
    height = dot_product(point, w)
    top, bottom = over(minus(height, high), step)
    start = max(0, -(-top // bottom))
    top, bottom = over(minus(height, low), step)
    return (start, max(start, top // bottom + 1))


def span_smaller(end, middle, point):
    """The round of an end of the kind smaller from which on none has the point."""
    if point == middle:
        return 1
    distance = far(point, middle)
    most = reach(end)
    if below(most, distance):
        return 0
    size = end[0][3]
    # The square of the size undone, taken so often, must come to more than this.
    return most_times((size[1] * size[1], size[0] * size[0]), over(most, distance)) + 1
