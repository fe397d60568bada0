"""Arcs and rings [7], [10], [11], [12], [13]."""

import unittest
from fractions import Fraction

from arcmill.arcs import ahead, arc, at_share, on, quarters, share_of
from arcmill.errors import MillError, NoKin, NoNumber, NoPiece, NoRow, NoText, TooMuch
from arcmill.points import far
from tests.helpers import (LONG, exact_point, fraction, is_fraction, is_point, long_number, long_point, names_of,
                           point, some_number, some_point, source, spot)

MIDDLE = point(0, 0)
RIGHT, UP, LEFT, DOWN = point(1, 0), point(0, 1), point(-1, 0), point(0, -1)
CENTRES = [((0, 0), 1), ((Fraction(1, 2), -3), Fraction(2, 3)), ((LONG, Fraction(1, LONG)), 7)]


def keys():
    """Places round a circle, in the order of going to the left."""
    shares = [0, Fraction(1, 5), Fraction(1, 2), Fraction(LONG - 1, LONG)]
    return [(quarter, share) for quarter in range(4) for share in shares]


def met(start, key):
    """When a place is met from the place start, as a number."""
    places = keys()
    return (places.index(key) - places.index(start)) % len(places)


def circles():
    """Centres with the points of all places round them."""
    for centre, radius in CENTRES:
        yield point(*centre), {key: spot(*key, centre, radius) for key in keys()}


def unlike_places():
    """All that an arc may begin and end with: the centre, its places, and two of them."""
    for c, spots in circles():
        for start in spots:
            for stop in spots:
                if start != stop:
                    yield c, spots, start, stop


class Arc(unittest.TestCase):
    def test_by_hand(self):
        self.assertEqual(arc(MIDDLE, RIGHT, UP), ("arc", MIDDLE, RIGHT, UP))
        self.assertEqual(arc(MIDDLE, UP, RIGHT), ("arc", MIDDLE, UP, RIGHT))
        self.assertEqual(arc(MIDDLE, point(3, 4), point(-5, 0)), ("arc", MIDDLE, point(3, 4), point(-5, 0)))

    def test_opposite_points(self):
        self.assertEqual(arc(MIDDLE, RIGHT, LEFT), ("arc", MIDDLE, RIGHT, LEFT))
        self.assertEqual(arc(MIDDLE, LEFT, RIGHT), ("arc", MIDDLE, LEFT, RIGHT))

    def test_alike_points_are_a_ring(self):
        self.assertEqual(arc(MIDDLE, UP, UP), ("ring", MIDDLE, UP))
        self.assertEqual(arc(point(2, 2), MIDDLE, MIDDLE), ("ring", point(2, 2), MIDDLE))

    def test_many_figures(self):
        chance = source("arc")
        for _ in range(30):
            c, p = long_point(chance), long_point(chance)
            q = at_share(c, p, fraction(long_number(chance)))
            self.assertEqual(arc(c, p, q), ("arc", c, p, q))
            self.assertEqual(arc(c, p, p), ("ring", c, p))

    def refused(self, c, p, q):
        with self.assertRaises(NoPiece) as told:
            arc(c, p, q)
        self.assertIsInstance(told.exception, MillError)
        self.assertIsInstance(told.exception, ValueError)
        for other in (NoNumber, TooMuch, NoKin, NoRow, NoText):
            self.assertNotIsInstance(told.exception, other)

    def test_not_as_far(self):
        self.refused(MIDDLE, RIGHT, point(0, 2))
        self.refused(MIDDLE, point(3, 4), point(5, 1))
        self.refused(MIDDLE, RIGHT, ((LONG, LONG - 1), (0, 1)))

    def test_the_centre_is_one_of_them(self):
        self.refused(MIDDLE, MIDDLE, RIGHT)
        self.refused(MIDDLE, RIGHT, MIDDLE)
        self.refused(MIDDLE, MIDDLE, MIDDLE)
        self.refused(point(4, 5), point(4, 5), point(4, 5))


class On(unittest.TestCase):
    def test_dot(self):
        self.assertIs(on(("dot", UP), UP), True)
        self.assertIs(on(("dot", UP), DOWN), False)

    def test_stretch(self):
        way = ("stretch", MIDDLE, point(4, 2))
        for p in (MIDDLE, point(4, 2), point(2, 1), ((1, 3), (1, 6))):
            self.assertIs(on(way, p), True)
        for p in (point(6, 3), point(-2, -1), point(2, 2), point(1, 0), ((2, 1), (LONG - 1, LONG))):
            self.assertIs(on(way, p), False)

    def test_upright_and_level_stretches(self):
        up, level = ("stretch", point(1, -1), point(1, 3)), ("stretch", point(-1, 2), point(3, 2))
        self.assertEqual([on(up, point(1, y)) for y in range(-3, 6)], [-1 <= y <= 3 for y in range(-3, 6)])
        self.assertEqual([on(level, point(x, 2)) for x in range(-3, 6)], [-1 <= x <= 3 for x in range(-3, 6)])
        self.assertIs(on(up, point(0, 1)), False)
        self.assertIs(on(level, point(0, 1)), False)

    def test_ring(self):
        ring = ("ring", MIDDLE, point(5, 0))
        for p in (point(5, 0), point(3, 4), point(-4, 3), point(0, -5), point(-5, 0)):
            self.assertIs(on(ring, p), True)
        for p in (MIDDLE, point(4, 4), point(5, 1), ((LONG, LONG - 1), (0, 1))):
            self.assertIs(on(ring, p), False)

    def test_quarter(self):
        quarter = ("arc", MIDDLE, point(5, 0), point(0, 5))
        for p in (point(5, 0), point(0, 5), point(3, 4), point(4, 3)):
            self.assertIs(on(quarter, p), True)
        for p in (point(-3, 4), point(3, -4), point(-5, 0), point(0, -5), point(-3, -4), MIDDLE, point(3, 3)):
            self.assertIs(on(quarter, p), False)

    def test_the_other_three_quarters(self):
        rest = ("arc", MIDDLE, point(0, 5), point(5, 0))
        for p in (point(5, 0), point(0, 5), point(-3, 4), point(3, -4), point(-5, 0), point(0, -5)):
            self.assertIs(on(rest, p), True)
        for p in (point(3, 4), point(4, 3), MIDDLE):
            self.assertIs(on(rest, p), False)

    def test_half(self):
        half = ("arc", MIDDLE, point(5, 0), point(-5, 0))
        self.assertIs(on(half, point(0, 5)), True)
        self.assertIs(on(half, point(-5, 0)), True)
        self.assertIs(on(half, point(0, -5)), False)

    def test_each_arc_of_many_places(self):
        for c, spots, start, stop in unlike_places():
            piece = arc(c, spots[start], spots[stop])
            for key, p in spots.items():
                self.assertIs(on(piece, p), met(start, key) <= met(start, stop), (start, stop, key))


class Ahead(unittest.TestCase):
    def test_by_hand(self):
        self.assertIs(ahead(MIDDLE, RIGHT, UP, LEFT), True)
        self.assertIs(ahead(MIDDLE, RIGHT, LEFT, UP), False)
        self.assertIs(ahead(MIDDLE, RIGHT, LEFT, DOWN), True)
        self.assertIs(ahead(MIDDLE, RIGHT, UP, DOWN), True)
        self.assertIs(ahead(MIDDLE, UP, RIGHT, LEFT), False)
        self.assertIs(ahead(MIDDLE, UP, DOWN, RIGHT), True)

    def test_the_first_point_is_met_at_once(self):
        for p in (UP, LEFT, DOWN):
            self.assertIs(ahead(MIDDLE, RIGHT, RIGHT, p), True)
            self.assertIs(ahead(MIDDLE, RIGHT, p, RIGHT), False)

    def test_no_point_is_ahead_of_itself(self):
        for p in (RIGHT, UP, LEFT, DOWN, ((3, 5), (-4, 5))):
            self.assertIs(ahead(MIDDLE, RIGHT, p, p), False)

    def test_all_of_many_places(self):
        for c, spots in circles():
            for start in spots:
                for one in spots:
                    for other in spots:
                        self.assertIs(ahead(c, spots[start], spots[one], spots[other]),
                                      met(start, one) < met(start, other), (start, one, other))


class Shares(unittest.TestCase):
    def test_named_ones(self):
        c, a = point(2, 3), point(7, 3)
        self.assertEqual(at_share(c, a, (0, 1)), a)
        self.assertEqual(at_share(c, a, (1, 1)), point(2, 8))
        self.assertEqual(at_share(c, a, (-1, 1)), point(2, -2))
        self.assertEqual(at_share(c, a, (1, 2)), point(5, 7))
        self.assertEqual(at_share(c, a, (-1, 2)), point(5, -1))
        self.assertEqual(at_share(c, a, (2, 1)), point(-1, 7))
        self.assertEqual(at_share(c, a, (1, 3)), point(6, 6))

    def test_told_back(self):
        c, a = point(2, 3), point(7, 3)
        self.assertEqual(share_of(c, a, a), (0, 1))
        self.assertEqual(share_of(c, a, point(2, 8)), (1, 1))
        self.assertEqual(share_of(c, a, point(2, -2)), (-1, 1))
        self.assertEqual(share_of(c, a, point(5, 7)), (1, 2))
        self.assertEqual(share_of(c, a, point(-1, -1)), (-2, 1))

    def test_opposite(self):
        self.assertIsNone(share_of(point(2, 3), point(7, 3), point(-3, 3)))
        self.assertIsNone(share_of(MIDDLE, UP, DOWN))
        self.assertIsNone(share_of(MIDDLE, ((LONG, 7), (3, LONG)), ((-LONG, 7), (-3, LONG))))

    def test_the_rule_of_12(self):
        chance = source("shares")
        for round_ in range(150):
            far_out = round_ % 5 == 0
            c, a = (long_point(chance), long_point(chance)) if far_out else (some_point(chance), some_point(chance))
            t = long_number(chance) if far_out else some_number(chance)
            (cx, cy), (ax, ay) = exact_point(c), exact_point(a)
            u, v = (1 - t * t) / (1 + t * t), 2 * t / (1 + t * t)
            x, y = ax - cx, ay - cy
            told = at_share(c, a, fraction(t))
            self.assertEqual(told, point(cx + u * x - v * y, cy + v * x + u * y))
            self.assertTrue(is_point(told))
            self.assertEqual(far(c, told), far(c, a))
            if c != a:
                self.assertEqual(share_of(c, a, told), fraction(t))
                self.assertTrue(is_fraction(share_of(c, a, told)))

    def test_greater_ones_are_further_to_the_left(self):
        shares = sorted({Fraction(top, bottom) for top in range(0, 9) for bottom in range(1, 5)})
        c, a = point(1, 1), point(4, 5)
        spots = [at_share(c, a, fraction(t)) for t in shares]
        for one, other in zip(spots, spots[1:]):
            self.assertIs(ahead(c, a, one, other), True)
        rights = [at_share(c, a, fraction(-t)) for t in shares[1:]]
        for one, other in zip(rights, rights[1:]):
            self.assertIs(ahead(c, a, other, one), True)

    def test_each_other_point_has_its_share(self):
        for c, places in circles():
            spots = list(places.values())
            for at, a in enumerate(spots):
                for place, p in enumerate(spots):
                    t = share_of(c, a, p)
                    if (place - at) % len(spots) == len(spots) // 2:
                        self.assertIsNone(t)
                    else:
                        self.assertEqual(at_share(c, a, t), p)


class Quarters(unittest.TestCase):
    C = point(1, 2)
    ROUND = [point(6, 2), point(1, 7), point(-4, 2), point(1, -3)]

    def held(self, stop, between):
        self.assertEqual(quarters(("arc", self.C, self.ROUND[0], stop)), self.ROUND[:between + 1] + [stop])

    def test_less_than_a_quarter(self):
        self.held(point(5, 5), 0)
        self.held(point(4, 6), 0)

    def test_just_so_many_quarters(self):
        self.held(self.ROUND[1], 0)
        self.held(self.ROUND[2], 1)
        self.held(self.ROUND[3], 2)

    def test_more(self):
        self.held(point(-2, 6), 1)
        self.held(point(-2, -2), 2)
        self.held(point(4, -2), 3)
        self.held(point(5, -1), 3)

    def test_ring(self):
        self.assertEqual(quarters(("ring", self.C, self.ROUND[0])), self.ROUND + self.ROUND[:1])
        self.assertEqual(quarters(("ring", MIDDLE, point(3, 4))),
                         [point(3, 4), point(-4, 3), point(-3, -4), point(4, -3), point(3, 4)])

    def test_each_arc_of_many_places(self):
        for c, spots, start, stop in unlike_places():
            ways = [((start[0] + k) % 4, start[1]) for k in range(1, 4)]
            within = [spots[way] for way in ways if met(start, way) < met(start, stop)]
            self.assertEqual(quarters(("arc", c, spots[start], spots[stop])), [spots[start]] + within + [spots[stop]])

    def test_the_list_is_the_asker_s_own(self):
        for piece in (("ring", self.C, self.ROUND[0]), ("arc", self.C, self.ROUND[0], self.ROUND[2])):
            told = quarters(piece)
            kept = list(told)
            told.reverse()
            told.append(None)
            self.assertEqual(quarters(piece), kept)
            self.assertIsNot(quarters(piece), quarters(piece))


class Interface(unittest.TestCase):
    def test_arguments(self):
        self.assertEqual(names_of(arc), ["c", "p", "q"])
        self.assertEqual(names_of(on), ["piece", "p"])
        self.assertEqual(names_of(ahead), ["c", "a", "p", "q"])
        self.assertEqual(names_of(at_share), ["c", "a", "t"])
        self.assertEqual(names_of(share_of), ["c", "a", "p"])
        self.assertEqual(names_of(quarters), ["piece"])


if __name__ == "__main__":
    unittest.main()
