"""Which powers of a plain map, told by its kind, lead the carrier of one piece to that of another one."""

from arcmill.few import same_carrier
from arcmill.fractions import greatest_divisor, minus, over
from arcmill.points import cross_product, dot_product, far, grown, off, on_one_bottom, side, together
from arcmill.steps import exact_step
from arcmill.stretches import line
from arcmill.ways import root_of


def keeps_line(kind, piece):
    """Whether the map leads the line of a stretch to itself; of other pieces it isn't so."""
    if piece[0] != "stretch" or kind[0] == "none":
        return False
    if kind[0] == "on":
        return side(piece[1], piece[2], together(piece[1], kind[1])) == 0
    return side(piece[1], piece[2], kind[1]) == 0


def family(kind, piece):
    """A tuple that the map doesn't change, so that only carriers of one family are led to each other; None of a dot."""
    if piece[0] == "dot":
        return None
    if piece[0] == "stretch":
        return ("line",) + shortened(line(piece[1], piece[2])[1:3])
    if kind[0] == "smaller":
        return ("circle",) + shortened(on_one_bottom(off(piece[1], kind[1]))[:2])
    return ("circle", far(piece[1], piece[2]))


def shortened(pair):
    """Two whole numbers divided by what divides both."""
    shared = max(1, greatest_divisor(pair[0], pair[1]))
    return (pair[0] // shared, pair[1] // shared)


def shift(kind, piece, goal):
    """The power that leads the carrier of a piece to that of a goal, or None.

    Both are of one family, and no stretches whose line the map keeps.
    """
    if kind[0] == "none":
        return 0 if same_carrier(piece, goal) else None
    if goal[0] == "stretch":
        return line_shift(kind, piece, goal)
    return circle_shift(kind, piece, goal)


def line_shift(kind, piece, goal):
    """The power that leads the line of a stretch to that of another one that goes the same way."""
    way = off(goal[2], goal[1])
    # How far at the left of the goal's line a point is, in some measure.
    left = cross_product(way, off(piece[1], goal[1]))
    if kind[0] == "on":
        return exact_step(kind, over((-left[0], left[1]), cross_product(way, kind[1])))
    middle_left = cross_product(way, off(kind[1], goal[1]))
    return exact_step(kind, over(minus(middle_left, left), middle_left))


def circle_shift(kind, piece, goal):
    """The power that leads the circle of an arc or ring to that of another one."""
    if kind[0] == "on":
        away = off(goal[1], piece[1])
        number = over(dot_product(away, kind[1]), dot_product(kind[1], kind[1]))
        return exact_step(kind, number) if away == grown(kind[1], number) else None
    number = root_of(over(far(piece[1], piece[2]), far(goal[1], goal[2])))
    if number is None or off(piece[1], kind[1]) != grown(off(goal[1], kind[1]), number):
        return None
    return exact_step(kind, number)
