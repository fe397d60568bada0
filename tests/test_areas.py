"""Strokes cut to straight legs, slivers and areas [35], [36]."""

import copy
import math
import unittest
from fractions import Fraction

from arcmill.areas import area, cut_strokes, slivers
from arcmill.errors import TooMuch
from arcmill.winding import inside
from tests.helpers import exact, exact_point, fraction, is_fraction, names_of, point, source, square, turn
from tests.strokes import bend, ring, round_from, some_stroke, turned_about, way_of

SQUARE = way_of((0, 0), (4, 0), (4, 4), (0, 4))
STAR = way_of((0, 5), (-3, -4), (5, 2), (-5, 2), (3, -4))
ZERO = (0, 1)


def straight(*places):
    """Straight legs from place to place, not closed."""
    points = [point(*place) for place in places]
    return [("straight", p, q) for p, q in zip(points, points[1:])]


def slow_points(leg, parts):
    """The points at which a bend to the left is cut, by the words of the document."""
    c, p, q = [exact_point(each) for each in leg[1:4]]
    ends = [p]
    for k in (1, 2, 3):
        x, y = p[0] - c[0], p[1] - c[1]
        for _ in range(k):
            x, y = -y, x
        at = (c[0] + x, c[1] + y)
        if p == q or turn(point(*c), point(*p), point(*at)) < turn(point(*c), point(*p), point(*q)):
            ends.append(at)
    ends.append(q)
    points = []
    for a, b in zip(ends, ends[1:]):
        t = share(c, a, b)
        for k in range(parts):
            points.append(round_from(a, c, t * k / parts, 1))
    return points + [q]


def share(c, a, b):
    """The fraction at which b is from a, at most a quarter to the left."""
    ux, uy, vx, vy = a[0] - c[0], a[1] - c[1], b[0] - c[0], b[1] - c[1]
    return (ux * vy - uy * vx) / (ux * ux + uy * uy + ux * vx + uy * vy)


def slow_cut(strokes, parts):
    cut = []
    for stroke in strokes:
        legs = []
        for leg in stroke:
            if leg[0] == "straight":
                legs.append(leg)
            elif leg[4] == 1:
                legs += straight(*slow_points(leg, parts))
            else:
                legs += straight(*slow_points(("bend", leg[1], leg[3], leg[2], 1), parts)[::-1])
        cut.append(legs)
    return cut


def slow_slivers(strokes, parts):
    whole = Fraction(0)
    for stroke in strokes:
        for leg in stroke:
            if leg[0] == "bend":
                left = leg if leg[4] == 1 else ("bend", leg[1], leg[3], leg[2], 1)
                points = slow_points(left, parts)
                for a, b in zip(points, points[1:]):
                    u = share(exact_point(leg[1]), a, b)
                    whole += square(leg[1], leg[2]) * u ** 3 / (1 + u ** 2)
    return whole


def slow_area(strokes, rule):
    """The area inside straight strokes: bands, and in each the points between neighbouring legs asked one by one."""
    legs = [(exact_point(leg[1]), exact_point(leg[2])) for stroke in strokes for leg in stroke]
    heights = {y for leg in legs for _, y in leg}
    for at, one in enumerate(legs):
        for other in legs[:at]:
            heights |= crossing_heights(one, other)
    heights, whole = sorted(heights), Fraction(0)
    for low, high in zip(heights, heights[1:]):
        middle = (low + high) / 2
        met = sorted({x_at(leg, middle) for leg in legs if min(leg[0][1], leg[1][1]) < middle < max(leg[0][1], leg[1][1])})
        for left, right in zip(met, met[1:]):
            if inside(strokes, rule, point((left + right) / 2, middle)):
                whole += (right - left) * (high - low)
    return whole


def x_at(leg, y):
    (ax, ay), (bx, by) = leg
    return ax + (bx - ax) * (y - ay) / (by - ay)


def crossing_heights(one, other):
    (ax, ay), (bx, by) = one
    (cx, cy), (dx, dy) = other
    bottom = (bx - ax) * (dy - cy) - (by - ay) * (dx - cx)
    if bottom == 0:
        return set()
    t = ((cx - ax) * (dy - cy) - (cy - ay) * (dx - cx)) / bottom
    return {ay + t * (by - ay)} if 0 <= t <= 1 else set()


class Cut(unittest.TestCase):
    def test_straight_legs_stay(self):
        for parts in (1, 2, 3, 4):
            self.assertEqual(cut_strokes([SQUARE, STAR], parts), [SQUARE, STAR])
            self.assertEqual(cut_strokes([], parts), [])

    def test_a_ring(self):
        self.assertEqual(cut_strokes([ring((0, 0), (5, 0))], 1), [straight((5, 0), (0, 5), (-5, 0), (0, -5), (5, 0))])
        self.assertEqual(cut_strokes([ring((0, 0), (5, 0), -1)], 1), [straight((5, 0), (0, -5), (-5, 0), (0, 5), (5, 0))])
        self.assertEqual(cut_strokes([ring((0, 0), (5, 0))], 2)[0][:3], straight((5, 0), (3, 4), (0, 5), (-4, 3)))
        self.assertEqual(cut_strokes([ring((0, 0), (10, 0))], 3)[0][:3], straight((10, 0), (8, 6), (Fraction(50, 13), Fraction(120, 13)), (0, 10)))
        self.assertEqual([len(cut_strokes([ring((1, 2), (5, 0))], parts)[0]) for parts in (1, 2, 3, 4)], [4, 8, 12, 16])

    def test_bends(self):
        self.assertEqual(cut_strokes([[bend((0, 0), (5, 0), (4, 3))]], 1), [straight((5, 0), (4, 3))])
        # From (5, 0) the share of (4, 3) is 1/3.
        self.assertEqual(cut_strokes([[bend((0, 0), (5, 0), (4, 3))]], 2),
                         [straight((5, 0), (Fraction(175, 37), Fraction(60, 37)), (4, 3))])
        self.assertEqual(cut_strokes([[bend((0, 0), (4, 3), (5, 0), -1)]], 2),
                         [straight((4, 3), (Fraction(175, 37), Fraction(60, 37)), (5, 0))])
        self.assertEqual(cut_strokes([[bend((0, 0), (5, 0), (0, 5))]], 1), [straight((5, 0), (0, 5))])
        self.assertEqual(cut_strokes([[bend((0, 0), (5, 0), (-4, 3))]], 1), [straight((5, 0), (0, 5), (-4, 3))])
        # To the right it is cut from its last point on: the quarters are those of the way to the left.
        self.assertEqual(cut_strokes([[bend((0, 0), (-4, 3), (5, 0), -1)]], 1), [straight((-4, 3), (0, 5), (5, 0))])
        self.assertEqual(cut_strokes([[bend((0, 0), (5, 0), (-4, 3), -1)]], 1),
                         [straight((5, 0), (4, -3), (-3, -4), (-4, 3))])

    def test_by_the_words(self):
        chance = source("cut")
        for _ in range(80):
            strokes = [some_stroke(chance, chance.randint(1, 5)) for _ in range(chance.randint(1, 2))]
            for parts in (1, 2, 3, 4):
                told = cut_strokes(strokes, parts)
                self.assertEqual(told, slow_cut(strokes, parts))
                self.assertEqual(cut_strokes(turned_about(strokes), parts), turned_about(told))
                self.assertEqual(cut_strokes(told, parts), told)


class Slivers(unittest.TestCase):
    def test_by_hand(self):
        self.assertEqual(slivers([SQUARE], 3), ZERO)
        self.assertEqual(slivers([], 1), ZERO)
        # A quarter by one part: 25 times 1 by 2.
        self.assertEqual(slivers([[bend((0, 0), (5, 0), (0, 5))]], 1), (25, 2))
        self.assertEqual(slivers([ring((0, 0), (5, 0))], 1), (50, 1))
        self.assertEqual(slivers([ring((0, 0), (3, 4), -1)], 1), (50, 1))
        # By two parts the shares are 1/2 and 1/3.
        self.assertEqual(slivers([[bend((0, 0), (5, 0), (0, 5))]], 2), fraction(25 * (Fraction(1, 10) + Fraction(1, 30))))
        self.assertEqual(slivers([[bend((0, 0), (5, 0), (4, 3))] + SQUARE], 1), fraction(Fraction(25, 30)))

    def test_by_the_words(self):
        chance = source("slivers")
        for _ in range(60):
            strokes = [some_stroke(chance, chance.randint(1, 5)) for _ in range(chance.randint(1, 2))]
            for parts in (1, 2, 3, 4):
                told = slivers(strokes, parts)
                self.assertTrue(is_fraction(told))
                self.assertEqual(told, fraction(slow_slivers(strokes, parts)))
                self.assertEqual(slivers(turned_about(strokes), parts), told)
                self.assertEqual(slivers(cut_strokes(strokes, parts), parts), ZERO)


class Area(unittest.TestCase):
    def both(self, strokes, rule, number):
        for parts in (1, 4):
            self.assertEqual(area(strokes, rule, parts), (fraction(number), fraction(number)))
            self.assertEqual(area(turned_about(strokes), rule, parts), (fraction(number), fraction(number)))

    def test_without_bends(self):
        for rule in ("odd", "wound"):
            self.both([], rule, 0)
            self.both([SQUARE], rule, 16)
            self.both([way_of((0, 0), (4, 0), (1, 3))], rule, 6)
            self.both([way_of((0, 0), (4, 0))], rule, 0)
            self.both([way_of((0, 0), (0, 4))], rule, 0)
            self.both([way_of((0, 0), (4, 4), (4, 0), (0, 4))], rule, 8)
            self.both([way_of((0, 0), (6, 0), (6, 2), (4, 2), (4, 1), (2, 1), (2, 2), (0, 2))], rule, 10)

    def test_the_two_rules(self):
        self.both([SQUARE, SQUARE], "odd", 0)
        self.both([SQUARE, SQUARE], "wound", 16)
        self.both([SQUARE] * 3, "odd", 16)
        self.both([SQUARE] + turned_about([SQUARE]), "wound", 0)
        shifted = way_of((2, 2), (6, 2), (6, 6), (2, 6))
        self.both([SQUARE, shifted], "odd", 24)
        self.both([SQUARE, shifted], "wound", 28)
        self.both([SQUARE] + turned_about([shifted]), "wound", 24)
        hole = way_of((1, 1), (3, 1), (3, 3), (1, 3))
        self.both([SQUARE, hole], "odd", 12)
        self.both([SQUARE, hole], "wound", 16)
        self.both([SQUARE] + turned_about([hole]), "wound", 12)
        self.both([STAR], "odd", slow_area([STAR], "odd"))
        self.both([STAR], "wound", slow_area([STAR], "wound"))
        self.assertNotEqual(area([STAR], "odd", 1), area([STAR], "wound", 1))

    def test_legs_gone_along_twice(self):
        # Out and back along one leg, and a square with a leg in common with another one.
        self.both([way_of((0, 0), (4, 0), (4, 4), (8, 4), (4, 4), (0, 4))], "odd", 16)
        beside = way_of((4, 0), (8, 0), (8, 4), (4, 4))
        for rule in ("odd", "wound"):
            self.both([SQUARE, beside], rule, 32)
            self.both([SQUARE] + turned_about([beside]), rule, 32)

    def test_bends(self):
        told = area([ring((0, 0), (5, 0))], "odd", 1)
        self.assertEqual(told, ((0, 1), (100, 1)))
        low, high = area([ring((0, 0), (5, 0))], "wound", 4)
        self.assertTrue(exact(low) < 25 * math.pi < exact(high))
        # By two parts the eight triangles are 25 times 2/5 and 25 times 3/10 each.
        middle, room = Fraction(25 * 4, 2) * (Fraction(4, 5) + Fraction(3, 5)), 100 * (Fraction(1, 10) + Fraction(1, 30))
        self.assertEqual(area([ring((0, 0), (5, 0))], "odd", 2), (fraction(middle - room), fraction(middle + room)))

    def test_a_low_that_would_be_below_0(self):
        there_and_back = [bend((0, 0), (5, 0), (0, 5)), bend((0, 0), (0, 5), (5, 0), -1)]
        self.assertEqual(area([there_and_back], "wound", 1), (ZERO, (25, 1)))
        slice_of = [bend((0, 0), (5, 0), (0, 5)), ("straight", point(0, 5), point(5, 0))]
        self.assertEqual(area([slice_of], "odd", 1), (ZERO, (25, 2)))

    def test_the_true_area_lies_between(self):
        # A half of a ring on a square, and the same half cut out of it.
        for way, sign in ((1, 1), (-1, -1)):
            places = way_of((0, 0), (4, 0), (4, 4), (0, 4))
            places[1:2] = [bend((4, 2), (4, 0), (4, 4), way)]
            for parts in (1, 2, 3, 4):
                low, high = area([places], "odd", parts)
                self.assertTrue(exact(low) < 16 + sign * 2 * math.pi < exact(high))

    def test_more_parts_are_nearer(self):
        strokes = [[bend((0, 0), (5, 0), (-3, 4)), ("straight", point(-3, 4), point(5, 0))]]
        rooms = [exact(high) - exact(low) for low, high in (area(strokes, "odd", parts) for parts in (2, 3, 4))]
        self.assertEqual(rooms, sorted(rooms, reverse=True))

    def test_by_bands_asked_one_by_one(self):
        chance = source("areas")
        for _ in range(60):
            strokes = [some_stroke(chance, chance.randint(1, 5), most=4) for _ in range(chance.randint(1, 2))]
            parts = chance.randint(1, 2)
            cut = cut_strokes(strokes, parts)
            if sum(map(len, cut)) > 24:
                self.assertRaises(TooMuch, area, strokes, "odd", parts)
                continue
            room = slow_slivers(strokes, parts)
            for rule in ("odd", "wound"):
                middle = slow_area(cut, rule)
                told = area(strokes, rule, parts)
                self.assertEqual(told, (fraction(max(0, middle - room)), fraction(middle + room)))
                self.assertTrue(type(told) is tuple and all(map(is_fraction, told)))
                self.assertEqual(area(turned_about(strokes), rule, parts), told)

    def test_many_crossings(self):
        chance = source("crossings")
        for _ in range(4):
            strokes = [some_stroke(chance, 15, bends=False, most=9)]
            for rule in ("odd", "wound"):
                self.assertEqual(area(strokes, rule, 1)[0], fraction(slow_area(strokes, rule)))

    def test_many_figures(self):
        size = Fraction(12, 11) ** 300
        for rule in ("odd", "wound"):
            star = [[("straight", *[point(*[size * part for part in exact_point(p)]) for p in leg[1:]]) for leg in STAR]]
            self.assertEqual(area(star, rule, 1)[0], fraction(slow_area([STAR], rule) * size ** 2))
        moved = way_of(*[(size + k, size * j) for k, j in ((0, 0), (7, 2), (3, 3), (1, 9), (4, 0))])
        self.assertEqual(area([moved], "odd", 1)[0], fraction(slow_area([moved], "odd")))

    def test_just_twenty_four_legs_and_one_more(self):
        six = ring((0, 0), (5, 0))
        self.assertEqual(len(area([six, SQUARE, SQUARE], "wound", 4)), 2)
        self.assertEqual(len(area([six] * 6, "wound", 1)), 2)
        for strokes, parts in (([six] * 6 + [SQUARE], 1), ([six] * 2, 4), ([six, SQUARE, SQUARE, SQUARE], 4)):
            with self.assertRaises(TooMuch):
                area(strokes, "odd", parts)
        legs = [("straight", point(k, k * k), point(k + 1, (k + 1) ** 2)) for k in range(23)]
        closed = legs + [("straight", point(23, 23 ** 2), point(0, 0))]
        self.assertEqual(area([closed], "odd", 4)[0], fraction(slow_area([closed], "odd")))
        longer = legs + [("straight", point(23, 23 ** 2), point(23, 0)), ("straight", point(23, 0), point(0, 0))]
        with self.assertRaises(TooMuch):
            area([longer], "odd", 1)
        with self.assertRaises(TooMuch):
            area([longer] * 100, "odd", 4)


class Kept(unittest.TestCase):
    def test_nothing_kept(self):
        strokes = [SQUARE[:], [bend((0, 0), (5, 0), (0, 5)), ("straight", point(0, 5), point(5, 0))]]
        same = copy.deepcopy(strokes)
        told = cut_strokes(strokes, 2)
        again = copy.deepcopy(told)
        for stroke in told:
            stroke.clear()
        told.clear()
        slivers(strokes, 2)
        area(strokes, "odd", 2)
        self.assertEqual(strokes, same)
        self.assertEqual(cut_strokes(strokes, 2), again)

    def test_arguments(self):
        self.assertEqual(names_of(cut_strokes), ["strokes", "parts"])
        self.assertEqual(names_of(slivers), ["strokes", "parts"])
        self.assertEqual(names_of(area), ["strokes", "rule", "parts"])


if __name__ == "__main__":
    unittest.main()
