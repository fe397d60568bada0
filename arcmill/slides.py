"""Stretches on a line that a plain map leads to itself, told by numbers that rise as the map leads on.

Of the kind on the number of a point is how many w it is on; the map adds 1 to it. Of the kind smaller it is below 0,
as far as the point is from the middle, and the map takes it size times.
"""

from arcmill.fractions import below, greatest, least, minus, over, plus, times
from arcmill.frames import led
from arcmill.points import before, dot_product, grown, off, side, together
from arcmill.steps import last_step, raised, stepped


def number_of(kind, goal, p):
    """The number of a point of the goal's line."""
    if kind[0] == "on":
        return over(dot_product(p, kind[1]), dot_product(kind[1], kind[1]))
    way = off(goal[1], kind[1])
    top, bottom = over(dot_product(off(p, kind[1]), way), dot_product(way, way))
    return (-top, bottom)


def point_at(kind, goal, number):
    """The point of the goal's line that has a number."""
    if kind[0] == "on":
        return together(goal[1], grown(kind[1], minus(number, number_of(kind, goal, goal[1]))))
    return together(kind[1], grown(off(goal[1], kind[1]), (-number[0], number[1])))


def moved(kind, number, n):
    """The number of the point to which the n-th power leads, n also below 0."""
    return plus(number, (n, 1)) if kind[0] == "on" else times(number, raised(kind[2], n))


def last_round(kind, number, limit):
    """The greatest power that doesn't lead a number beyond a limit."""
    return last_step(kind, minus(limit, number) if kind[0] == "on" else over(number, limit))


def slide_of(kind, goal, piece):
    """The pair (start, stop) of a stretch that goes the same way, None where it isn't on the goal's line or ray."""
    if side(goal[1], goal[2], piece[1]) != 0:
        return None
    one = number_of(kind, goal, piece[1])
    other = number_of(kind, goal, piece[2])
    if kind[0] == "smaller" and one[0] > 0:
        return None
    return (least(one, other), greatest(one, other))


def slides_of(kind, goal, pieces):
    """Tuples (number, start, stop) of those pairs of a number and a piece that are on the goal's line or ray."""
    found = []
    for number, piece in pieces:
        slide = slide_of(kind, goal, piece)
        if slide is not None:
            found.append((number, slide[0], slide[1]))
    return found


class SlideCover:
    """What covers the rounds of a stretch whose line the map keeps, seen from its round 0.

    It is told pairs of a number and a piece that go the same way, of still and of flow.
    """

    def __init__(self, kind, goal, stills, flows):
        self.kind = kind
        self.goal = goal
        self.stills = slides_of(kind, goal, stills)
        self.flows = slides_of(kind, goal, flows)
        self.onward = {}

    def led_along(self, n, pure):
        """The chain for round n, of flow alone where it is pure, and None; or None and a gap in the goal."""
        start, stop = slide_of(self.kind, self.goal, self.goal)
        fixed = [] if pure else [self.back(slide, n) for slide in self.stills]
        chain = []
        stand = start
        at = None
        while below(stand, stop):
            best = self.best_from(stand, at, n, fixed)
            if best is None:
                beyond = self.next_start(stand, n, fixed, stop)
                gap = (point_at(self.kind, self.goal, stand), point_at(self.kind, self.goal, beyond))
                return (None, gap)
            stand, link, at = best
            chain.append(link)
        if not before(self.goal[1], led(stepped(self.kind, 1), self.goal[1])):
            chain = chain[::-1]
        return (chain, None)

    def back(self, slide, n):
        """A slide led back by n rounds."""
        return (slide[0], moved(self.kind, slide[1], -n), moved(self.kind, slide[2], -n))

    def best_from(self, stand, at, n, fixed):
        """The tuple (stop, (number, round), at) of the slide that leads furthest on from where one stands, or None.

        At is the pair of a place among the slides of flow and a power at whose stop one stands, None at any other stop.
        """
        best = self.flow_from(stand, at, n)
        for number, start, stop in fixed:
            if not below(stand, start) and below(stand if best is None else best[0], stop):
                best = (stop, (number, 0), None)
        return best

    def flow_from(self, stand, at, n):
        """That tuple of slides of flow alone."""
        found = self.furthest(stand, -n) if at is None else self.furthest_behind(at)
        if found is not None and found[1] < -n:
            found = self.furthest(stand, -n)
        if found is None:
            return None
        number, start, stop = self.flows[found[0]]
        return (moved(self.kind, stop, found[1]), (number, found[1] + n), found)

    def furthest(self, stand, least_power):
        """The place and the power, from a least one on if one is told, of the slide of flow that leads furthest on."""
        best = None
        best_stop = stand
        for place, (number, start, stop) in enumerate(self.flows):
            i = last_round(self.kind, start, stand)
            if least_power is None or i >= least_power:
                there = moved(self.kind, stop, i)
                if below(best_stop, there):
                    best = (place, i)
                    best_stop = there
        return best

    def furthest_behind(self, at):
        """The place and the power of the slide of flow, of any round, that leads furthest on from one's stop."""
        place, i = at
        # From the stop of a slide all is the same in each round, so each is looked at but once.
        if place not in self.onward:
            self.onward[place] = self.furthest(self.flows[place][2], None)
        found = self.onward[place]
        return None if found is None else (found[0], found[1] + i)

    def next_start(self, stand, n, fixed, limit):
        """The least number beyond where one stands, up to a limit, at which a slide starts."""
        beyond = limit
        for slide in fixed:
            if below(stand, slide[1]):
                beyond = least(beyond, slide[1])
        for number, start, stop in self.flows:
            i = max(-n, last_round(self.kind, start, stand) + 1)
            beyond = least(beyond, moved(self.kind, start, i))
        return beyond
