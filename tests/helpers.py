"""What the tests share: exact values made by Python's own fractions, and looks at forms."""

import inspect
import random
from fractions import Fraction
from math import gcd

LONG = 10 ** 60 - 1


def fraction(value, bottom=1):
    """The tuple of a number, without the help of the program."""
    exact = Fraction(value, bottom)
    return (exact.numerator, exact.denominator)


def point(x, y):
    return (fraction(x), fraction(y))


def exact(pair):
    return Fraction(pair[0], pair[1])


def exact_point(p):
    return (exact(p[0]), exact(p[1]))


def names_of(deed):
    return list(inspect.signature(deed).parameters)


def source(seed):
    """Numbers that look like chance, the same ones in each run."""
    return random.Random(seed)


def some_number(chance, most=6, bottoms=4):
    return Fraction(chance.randint(-most, most), chance.randint(1, bottoms))


def some_point(chance, most=6, bottoms=4):
    return point(some_number(chance, most, bottoms), some_number(chance, most, bottoms))


def long_number(chance):
    return Fraction(chance.randint(-LONG, LONG), chance.randint(1, LONG))


def long_point(chance):
    return point(long_number(chance), long_number(chance))


def some_frame(chance, long=False):
    place = long_point(chance) if long else some_point(chance)
    size = abs(long_number(chance)) if long else Fraction(chance.randint(1, 6), chance.randint(1, 6))
    return (place, chance.randint(0, 3), chance.choice((1, -1)), fraction(size or 1))


def spot(quarter, share, centre=(0, 0), radius=1):
    """A point round a centre: so many quarters to the left of straight right, and a share, 0 to below 1, of one more.

    Among such points the pair (quarter, share) is in the order of going to the left.
    """
    share = Fraction(share)
    x, y = (1 - share ** 2) / (1 + share ** 2), 2 * share / (1 + share ** 2)
    for _ in range(quarter):
        x, y = -y, x
    return point(centre[0] + radius * x, centre[1] + radius * y)


def is_whole(value):
    return type(value) is int


def is_fraction(value):
    return (type(value) is tuple and len(value) == 2 and is_whole(value[0]) and is_whole(value[1])
            and value[1] >= 1 and gcd(value[0], value[1]) == 1)


def is_point(value):
    return type(value) is tuple and len(value) == 2 and all(is_fraction(part) for part in value)


def is_frame(value):
    if type(value) is not tuple or len(value) != 4:
        return False
    place, turns, hand, size = value
    return (is_point(place) and is_whole(turns) and 0 <= turns <= 3
            and is_whole(hand) and hand in (1, -1) and is_fraction(size) and size[0] > 0)


def is_piece(value):
    if type(value) is not tuple or value == () or not all(is_point(p) for p in value[1:]):
        return False
    word, *points = value
    if word == "dot":
        return len(points) == 1
    if word == "stretch":
        return len(points) == 2 and exact_point(points[0]) < exact_point(points[1])
    if word == "ring":
        return len(points) == 2 and points[0] != points[1]
    return (word == "arc" and len(points) == 3 and points[1] != points[2]
            and square(points[0], points[1]) == square(points[0], points[2]) > 0)


def square(p, q):
    """The square of the distance, without the help of the program."""
    (px, py), (qx, qy) = exact_point(p), exact_point(q)
    return (px - qx) ** 2 + (py - qy) ** 2


def turn(c, a, p):
    """A key in the order of going from a to the left round c, once round, a itself first."""
    (cx, cy), (ax, ay), (px, py) = exact_point(c), exact_point(a), exact_point(p)
    ux, uy, vx, vy = ax - cx, ay - cy, px - cx, py - cy
    straight, left = ux * vx + uy * vy, ux * vy - uy * vx
    if left == 0:
        return (0, 0) if straight > 0 else (2, 0)
    return (1, -straight / left) if left > 0 else (3, -straight / left)


def has(piece, p):
    """Whether a piece has a point, without the help of the program."""
    if piece[0] == "dot":
        return piece[1] == p
    if piece[0] == "stretch":
        (ax, ay), (bx, by), (x, y) = [exact_point(each) for each in (piece[1], piece[2], p)]
        return (bx - ax) * (y - ay) == (by - ay) * (x - ax) and (ax, ay) <= (x, y) <= (bx, by)
    if square(piece[1], p) != square(piece[1], piece[2]):
        return False
    return piece[0] == "ring" or turn(*piece[1:3], p) <= turn(*piece[1:4])


def on_one_carrier(one, other):
    """Whether two pieces lie on one line or circle, without the help of the program."""
    if one[0] == "dot" or other[0] == "dot" or (one[0] == "stretch") != (other[0] == "stretch"):
        return False
    if one[0] != "stretch":
        return one[1] == other[1] and square(*one[1:3]) == square(*other[1:3])
    (ax, ay), (bx, by) = exact_point(one[1]), exact_point(one[2])
    return all((bx - ax) * (y - ay) == (by - ay) * (x - ax) for x, y in map(exact_point, other[1:]))


def is_chain(steps, piece):
    """Whether pieces, in the order of the chain, are one for a piece, by the words of DOC.md 25."""
    if piece[0] == "dot":
        return len(steps) == 1 and has(steps[0], piece[1])
    if not steps or not all(on_one_carrier(each, piece) for each in steps):
        return False
    if piece[0] == "stretch":
        return (has(steps[0], piece[1]) and has(steps[-1], piece[2])
                and all(has(later, each[2]) for each, later in zip(steps, steps[1:])))
    if steps[0][0] == "ring":
        return len(steps) == 1
    stand, goal = piece[2], piece[-1]
    for at, each in enumerate(steps):
        if each[0] != "arc" or not has(each, stand) or each[3] == stand:
            return False
        met = stand != goal and turn(each[1], stand, goal) <= turn(each[1], stand, each[3])
        if met != (at == len(steps) - 1):
            return False
        stand = each[3]
    return True


def some_piece(chance, most=6, bottoms=4):
    """A piece of any kind, without the help of the program."""
    word = chance.choice(("dot", "stretch", "arc", "ring"))
    p, c = some_point(chance, most, bottoms), some_point(chance, most, bottoms)
    if word == "dot" or c == p:
        return ("dot", p)
    if word == "stretch":
        return ("stretch", *sorted((c, p), key=exact_point))
    if word == "ring":
        return ("ring", c, p)
    (x, y), (cx, cy), t = exact_point(p), exact_point(c), some_number(chance) or Fraction(1)
    u, v = (1 - t ** 2) / (1 + t ** 2), 2 * t / (1 + t ** 2)
    return ("arc", c, p, point(cx + u * (x - cx) - v * (y - cy), cy + v * (x - cx) + u * (y - cy)))


def an_end(frame, pieces, row=0, rounds=()):
    """An end of a drawing, its pieces drawn by rows one behind the other."""
    return (frame, row, rounds, [(piece, row + 1 + k, ()) for k, piece in enumerate(pieces)])


def a_drawing(pieces, ends=()):
    """A drawing of still pieces and of pairs of a map and pieces."""
    still = [(piece, k, ()) for k, piece in enumerate(pieces)]
    return (still, [an_end(frame, parts, 100 * (k + 1)) for k, (frame, parts) in enumerate(ends)])


def some_point_of(chance, piece):
    """A point of a piece, without the help of the program; of an arc one of its ends or a point of the circle."""
    if piece[0] == "dot":
        return piece[1]
    if piece[0] == "stretch":
        (ax, ay), (bx, by) = exact_point(piece[1]), exact_point(piece[2])
        share = Fraction(chance.randint(0, 6), 6)
        return point(ax + share * (bx - ax), ay + share * (by - ay))
    (x, y), (cx, cy), t = exact_point(piece[2]), exact_point(piece[1]), Fraction(chance.randint(0, 4), 3)
    if piece[0] == "arc" and chance.random() < .3:
        return piece[3]
    u, v = (1 - t ** 2) / (1 + t ** 2), 2 * t / (1 + t ** 2)
    return point(cx + u * (x - cx) - v * (y - cy), cy + v * (x - cx) + u * (y - cy))


def about(middle, turns, hand, size):
    """The frame of these turns, hand and size that leads a point to itself, without the help of the program."""
    x, y = exact_point(middle)
    u, v = x, hand * y
    for _ in range(turns):
        u, v = -v, u
    return (point(x - Fraction(size) * u, y - Fraction(size) * v), turns, hand, fraction(size))
