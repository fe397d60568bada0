"""Stretches on a line that a plain map leads to itself, told by numbers that rise as the map leads on.

Of the kind on the number of a point is how many w it is on; the map adds 1 to it. Of the kind smaller it is below 0,
as far as the point is from the middle, and the map takes it size times.
"""

from arcmill.fractions import below, greatest, least, minus, over, plus, times
from arcmill.frames import led
from arcmill.points import before, dot_product, grown, off, side, together
from arcmill.steps import last_step, raised, stepped


def number_of(kind, goal, p):
    """The number of a point of the goal's line."""
    if kind[0] == "on":
        return over(dot_product(p, kind[1]), dot_product(kind[1], kind[1]))
    way = off(goal[1], kind[1])
    top, bottom = over(dot_product(off(p, kind[1]), way), dot_product(way, way))
    return (-top, bottom)


def point_at(kind, goal, number):
    """The point of the goal's line that has a number."""
    if kind[0] == "on":
        return together(goal[1], grown(kind[1], minus(number, number_of(kind, goal, goal[1]))))
    return together(kind[1], grown(off(goal[1], kind[1]), (-number[0], number[1])))


def moved(kind, number, n):
    """The number of the point to which the n-th power leads, n also below 0."""
    return plus(number, (n, 1)) if kind[0] == "on" else times(number, raised(kind[2], n))


def last_round(kind, number, limit):
    """The greatest power that doesn't lead a number beyond a limit."""
    return last_step(kind, minus(limit, number) if kind[0] == "on" else over(number, limit))


def slide_of(kind, goal, piece):
    """The pair (start, stop) of a stretch that goes the same way, None where it isn't on the goal's line or ray."""
    if side(goal[1], goal[2], piece[1]) != 0:
        return None
    one = number_of(kind, goal, piece[1])
    other = number_of(kind, goal, piece[2])
    if kind[0] == "smaller" and one[0] > 0:
        return None
    return (least(one, other), greatest(one, other))


def slides_of(kind, goal, pieces):
    """Tuples (number, start, stop) of those pairs of a number and a piece that are on the goal's line or ray."""
    found = []
    for number, piece in pieces:
        slide = slide_of(kind, goal, piece)
        if slide is not None:
            found.append((number, slide[0], slide[1]))
    return found


class SlideCover:
    """What covers the rounds of a stretch whose line the map keeps, seen from its round 0.

    It is told pairs of a number and a piece that go the same way, of still and of flow.
    """

    def __init__(self, kind, goal, stills, flows):
        self.kind = kind
        self.goal = goal
        self.stills = slides_of(kind, goal, stills)
        self.flows = slides_of(kind, goal, flows)

    def led_along(self, n, pure):
        """The chain for round n, of flow alone where it is pure, and None; or None and a gap in the goal."""
        start, stop = slide_of(self.kind, self.goal, self.goal)
        fixed = [] if pure else [self.back(slide, n) for slide in self.stills]
        chain = []
        stand = start
        while below(stand, stop):
            best = self.best_from(stand, n, fixed)
            if best is None:
                beyond = self.next_start(stand, n, fixed, stop)
                gap = (point_at(self.kind, self.goal, stand), point_at(self.kind, self.goal, beyond))
                return (None, gap)
            chain.append(best[1:])
            stand = best[0]
        if not before(self.goal[1], led(stepped(self.kind, 1), self.goal[1])):
            chain = chain[::-1]
        return (chain, None)

    def back(self, slide, n):
        """A slide led back by n rounds."""
        return (slide[0], moved(self.kind, slide[1], -n), moved(self.kind, slide[2], -n))

    def best_from(self, stand, n, fixed):
        """The tuple (stop, number, round) of the slide that leads furthest on from where one stands, or None."""
        found = [(stop, number, 0) for number, start, stop in fixed if not below(stand, start)]
        for number, start, stop in self.flows:
            i = last_round(self.kind, start, stand)
            if i + n >= 0:
                found.append((moved(self.kind, stop, i), number, i + n))
        best = None
        for each in found:
            if below(stand, each[0]) and (best is None or below(best[0], each[0])):
                best = each
        return best

    def next_start(self, stand, n, fixed, limit):
        """The least number beyond where one stands, up to a limit, at which a slide starts."""
        beyond = limit
        for slide in fixed:
            if below(stand, slide[1]):
                beyond = least(beyond, slide[1])
        for number, start, stop in self.flows:
            i = max(-n, last_round(self.kind, start, stand) + 1)
            beyond = least(beyond, moved(self.kind, start, i))
        return beyond
