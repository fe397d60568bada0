"""Where a point that goes straight on is on a piece, and so which powers of a plain map lead a piece to a point."""

from arcmill.arcs import on
from arcmill.fractions import greatest, least, minus, over, ratio
from arcmill.points import between, cross_product, off, on_one_bottom, side
from arcmill.steps import first_step, last_step


def powers_between(kind, piece, point):
    """Pairs (first, last) of whole numbers: the powers from first to last of a plain map lead the piece to the point.

    The kind is on, or smaller with another middle than the point. First is None where there is no least power.
    """
    found = []
    for low, high in meetings_back(kind, piece, point):
        endless = kind[0] == "smaller" and low[0] <= 0
        start = None if endless else first_step(kind, low)
        stop = last_step(kind, high)
        if endless or start <= stop:
            found.append((start, stop))
    return found


def meetings_back(kind, piece, point):
    """Pairs of numbers, as in meetings, between which the steps are whose powers of a plain map undone lead there."""
    if kind[0] == "on":
        return meetings(piece, point, off(point, kind[1]))
    pairs = meetings(piece, kind[1], point)
    return [pair for pair in pairs if pair[1][0] > 0]


def meetings(piece, start, second):
    """Pairs (low, high) of numbers t: the points at t between them, 0 being start and 1 the second, are on the piece.

    Start and second are unlike. Numbers that are no fractions are left out.
    """
    if piece[0] == "dot":
        return meetings_with_dot(piece[1], start, second)
    if piece[0] == "stretch":
        return meetings_with_stretch(piece, start, second)
    found = []
    for t in circle_meetings(piece, start, second):
        if (t, t) not in found and on(piece, between(start, second, t)):
            found.append((t, t))
    return found


def meetings_with_dot(p, start, second):
    """The meetings with a dot, one or none."""
    if side(start, second, p) != 0:
        return []
    # On a line, any one of x and y that isn't the same everywhere tells where a point is.
    axis = 1 if start[0] == second[0] else 0
    t = over(minus(p[axis], start[axis]), minus(second[axis], start[axis]))
    return [(t, t)]


def meetings_with_stretch(piece, start, second):
    """The meetings with a stretch, one or none."""
    sides = (side(start, second, piece[1]), side(start, second, piece[2]))
    if sides == (0, 0):
        one = meetings_with_dot(piece[1], start, second)[0][0]
        other = meetings_with_dot(piece[2], start, second)[0][0]
        return [(least(one, other), greatest(one, other))]
    if sides[0] == sides[1]:
        return []
    way = off(second, start)
    length = off(piece[2], piece[1])
    t = over(cross_product(off(piece[1], start), length), cross_product(way, length))
    return [(t, t)]


def circle_meetings(piece, start, second):
    """The numbers, two or none, at which a point that goes straight on is on the circle of an arc or ring."""
    sx, sy, sd = on_one_bottom(start)
    ex, ey, ed = on_one_bottom(second)
    cx, cy, cd = on_one_bottom(piece[1])
    px, py, pd = on_one_bottom(piece[2])
    # The way, start as seen from the centre, and the radius, each taken as often as its bottoms ask for.
    way_x, way_y = ex * sd - sx * ed, ey * sd - sy * ed
    off_x, off_y = sx * cd - cx * sd, sy * cd - cy * sd
    radius_x, radius_y = px * cd - cx * pd, py * cd - cy * pd
    length = way_x * way_x + way_y * way_y
    turn = way_x * off_y - way_y * off_x
    room = length * (radius_x * radius_x + radius_y * radius_y) * sd * sd - turn * turn * pd * pd
    root = exact_root(room)
    if root is None:
        return []
    straight = (way_x * off_x + way_y * off_y) * pd
    return [ratio(ed * (number - straight), cd * pd * length) for number in (root, -root)]


def exact_root(number):
    """The whole number from 0 on whose square a whole number is, or None."""
    # What a square leaves over by these few numbers tells most others apart, and at once.
    if number < 0 or number % 16 not in (0, 1, 4, 9) or number % 9 not in (0, 1, 4, 7):
        return None
    rest = number % 5005
    if rest % 5 not in (0, 1, 4) or rest % 7 not in (0, 1, 2, 4) or rest % 11 not in (0, 1, 3, 4, 5, 9):
        return None
    root = whole_root(number)
    return root if root * root == number else None


def root_of(number):
    """The fraction from 0 on whose square a fraction is, or None."""
    top = exact_root(number[0])
    bottom = exact_root(number[1])
    return None if top is None or bottom is None else (top, bottom)


def whole_root(number):
    """The greatest whole number whose square isn't above a whole number from 0 on."""
    if number == 0:
        return 0
    # It begins above the root and comes down to it, never below.
    root = 1 << (number.bit_length() + 1) // 2
    lower = (root + number // root) // 2
    while lower < root:
        root = lower
        lower = (root + number // root) // 2
    return root
