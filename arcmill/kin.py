"""Two drawings that can be held against each other, evened: both by one plain map."""

from arcmill.arcs import on
from arcmill.ends import farthest_of_all, heights_of_all, rise
from arcmill.errors import NoKin, TooMuch
from arcmill.fractions import below, least, minus, over, times
from arcmill.frames import behind, led, led_piece
from arcmill.movers import count, kind, power
from arcmill.points import cross_product, dot_product, far, grown, off
from arcmill.steps import raised, stepped
from arcmill.stretches import stretch

MOST_POWER = 12
MOST_PIECES = 300
MOST_WIDE = (300, 1)
MOST_DEEP = 600


def evened(one, other):
    """The tuple (kind, one, other) of two kin drawings, each told as a pair of lists of pieces (still, flow)."""
    common, parts = common_kind(going_kinds(one) + going_kinds(other))
    own = len(going_kinds(one))
    one_rounds = rounds_of_ends(one, parts[:own])
    other_rounds = rounds_of_ends(other, parts[own:])
    for drawing, rounds in ((one, one_rounds), (other, other_rounds)):
        if how_many(drawing, rounds) > MOST_PIECES:
            raise TooMuch("there are too many pieces")
    one_picture = opened_middle(common, picture(one, one_rounds))
    other_picture = opened_middle(common, picture(other, other_rounds))
    pieces = one_picture[0] + one_picture[1] + other_picture[0] + other_picture[1]
    frames = [end[0] for end in one[1] + other[1] if kind(end[0])[0] != "round"]
    if too_wide(common, frames, pieces) or too_deep(common, frames, pieces):
        raise TooMuch("the pieces are too wide or too deep")
    return (common, one_picture, other_picture)


def going_kinds(drawing):
    """The kinds of a drawing's ends that are not round, in order."""
    kinds = [kind(end[0]) for end in drawing[1]]
    return [each for each in kinds if each[0] != "round"]


def common_kind(kinds):
    """The kind of the plain map that is a power of all of these, and a list of the powers by which it is."""
    if kinds == []:
        return (("none",), [])
    tables = [[kind_raised(each, n) for n in range(1, MOST_POWER + 1)] for each in kinds]
    for common in tables[0]:
        if all([common in table for table in tables]):
            return (common, [table.index(common) + 1 for table in tables])
    raise NoKin("no plain map is a power of all")


def kind_raised(one, n):
    """The kind of the n-th power of a plain map of a kind, n from 1 on."""
    if one[0] == "on":
        return ("on", grown(one[1], (n, 1)))
    return ("smaller", one[1], raised(one[2], n))


def rounds_of_ends(drawing, parts):
    """How many rounds of each end are told one by one: its count, times the power of those that go."""
    rounds = []
    at = 0
    for end in drawing[1]:
        many = count(end[0])
        if kind(end[0])[0] != "round":
            many = many * parts[at]
            at += 1
        rounds.append(many)
    return rounds


def how_many(drawing, rounds):
    """How many pieces the lists still and flow of a drawing would have."""
    return len(drawing[0]) + sum([many * len(end[3]) for end, many in zip(drawing[1], rounds)])


def picture(drawing, rounds):
    """The pair of lists (still, flow) of a drawing, with so many rounds of each end."""
    still = [row[0] for row in drawing[0]]
    flow = []
    for end, many in zip(drawing[1], rounds):
        sort = kind(end[0])
        pieces = still if sort[0] == "round" else flow
        turns = [power(end[0], n) for n in range(count(end[0]))]
        for n in range(many):
            frame = behind(stepped(sort, n // len(turns)), turns[n % len(turns)])
            pieces.extend([led_piece(frame, row[0]) for row in end[3]])
    return (still, flow)


def opened_middle(common, lists):
    """The lists of a picture, of the kind smaller with stretches and dots through the middle told otherwise."""
    if common[0] != "smaller":
        return lists
    still, flow = lists
    c = common[1]
    gone = [piece for piece in still + flow if piece[0] == "stretch" and on(piece, c)]
    still_left = [piece for piece in still if piece not in gone]
    flow_left = [piece for piece in flow if piece not in gone and piece != ("dot", c)]
    if gone != [] or ("dot", c) in flow:
        still_left.append(("dot", c))
    frame = stepped(common, 1)
    for piece in gone:
        flow_left += [stretch(e, led(frame, e)) for e in piece[1:] if e != c]
    return (still_left, flow_left)


def too_wide(common, frames, pieces):
    """Whether the heights of the pieces, by some of the maps of the kind on, are too far apart."""
    if common[0] != "on":
        return False
    for frame in frames:
        w = kind(frame)[1]
        low, high = heights_of_all(pieces, w)
        if below(times(MOST_WIDE, rise(frame, w)), minus(high, low)):
            return True
    return False


def too_deep(common, frames, pieces):
    """Whether the farthest piece, led by so many rounds of some map of the kind smaller, isn't below the nearest."""
    if common[0] != "smaller":
        return False
    others = [piece for piece in pieces if piece != ("dot", common[1])]
    if others == []:
        return False
    high = farthest_of_all(others, common[1])
    low = nearest_of_all(others, common[1])
    return any([not below(times(high, raised(frame[3], MOST_DEEP)), low) for frame in frames])


def nearest_of_all(pieces, middle):
    """The least of these numbers of pieces, one at least."""
    best = nearest(pieces[0], middle)
    for piece in pieces[1:]:
        best = least(best, nearest(piece, middle))
    return best


def nearest(piece, middle):
    """The least square of a distance from the middle to a dot or stretch; the square of an arc's or ring's radius."""
    if piece[0] == "dot":
        return far(piece[1], middle)
    if piece[0] != "stretch":
        return far(piece[1], piece[2])
    way = off(piece[2], piece[1])
    there = off(middle, piece[1])
    share = over(dot_product(there, way), dot_product(way, way))
    if share[0] <= 0 or not below(share, (1, 1)):
        return least(far(piece[1], middle), far(piece[2], middle))
    turn = cross_product(way, there)
    return over(times(turn, turn), dot_product(way, way))
