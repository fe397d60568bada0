"""The winding of strokes round a point, and what is inside [34]."""

import cmath
import copy
import math
import unittest
from fractions import Fraction

from arcmill.winding import inside, winding
from tests.helpers import LONG, is_whole, names_of, point, source, square
from tests.strokes import bend, floats, ring, some_stroke, turned_about, way_of

SQUARE = way_of((0, 0), (4, 0), (4, 4), (0, 4))
BIG = 10 ** 2000 - 1


def rounded_winding(strokes, p):
    """The winding by small steps and angles, and how near the legs come to the point; near is good enough here."""
    z, angle, near = floats(p), 0.0, math.inf
    for stroke in strokes:
        for leg in stroke:
            places = places_along(leg)
            for one, other in zip(places, places[1:]):
                angle += cmath.phase((other - z) / (one - z)) if one != z and other != z else math.nan
                near = min(near, distance(z, one, other))
    return (None if math.isnan(angle) else round(angle / (2 * math.pi))), near


def places_along(leg):
    if leg[0] == "straight":
        return [floats(leg[1]), floats(leg[2])]
    c, p, q = map(floats, leg[1:4])
    whole = cmath.phase((q - c) / (p - c)) % (2 * math.pi) if leg[4] == 1 else -(cmath.phase((p - c) / (q - c)) % (2 * math.pi))
    if leg[2] == leg[3]:
        whole = leg[4] * 2 * math.pi
    return [p] + [c + (p - c) * cmath.exp(1j * whole * k / 400) for k in range(1, 400)] + [q]


def distance(z, one, other):
    way = other - one
    share = max(0, min(1, ((z - one) * way.conjugate()).real / abs(way) ** 2)) if way else 0
    return abs(z - one - share * way)


class Straight(unittest.TestCase):
    def test_left_and_right(self):
        self.assertEqual(winding([SQUARE], point(1, 1)), 1)
        self.assertEqual(winding(turned_about([SQUARE]), point(1, 1)), -1)
        for outside in (point(5, 1), point(-1, 1), point(1, 5), point(1, -1), point(-1, 0), point(-1, 4), point(9, 0),
                        point(LONG, LONG), point(-LONG, 2)):
            self.assertEqual(winding([SQUARE], outside), 0)
            self.assertEqual(winding(turned_about([SQUARE]), outside), 0)

    def test_on_a_leg_and_at_an_end(self):
        for p in (point(0, 0), point(4, 4), point(2, 0), point(4, 1), point(0, 3), point(2, 4)):
            self.assertIsNone(winding([SQUARE], p))
            self.assertIsNone(winding(turned_about([SQUARE]), p))
            self.assertIsNone(winding([way_of((9, 9), (10, 9), (9, 10)), SQUARE], p))

    def test_gone_along_twice(self):
        self.assertEqual(winding([SQUARE, SQUARE], point(1, 1)), 2)
        self.assertEqual(winding([SQUARE + SQUARE], point(1, 1)), 2)
        self.assertEqual(winding([SQUARE] + turned_about([SQUARE]), point(1, 1)), 0)
        self.assertEqual(winding([way_of((0, 0), (4, 0))], point(1, 1)), 0)

    def test_level_with_ends(self):
        hat = way_of((0, 0), (4, 0), (2, 2))
        star = way_of((-2, 0), (0, -2), (2, 0), (0, 2))
        self.assertEqual(winding([star], point(0, 0)), 1)
        self.assertEqual(winding([star], point(-1, 0)), 1)
        self.assertEqual(winding([star], point(-3, 0)), 0)
        self.assertEqual(winding([hat], point(1, 2)), 0)
        self.assertEqual(winding([hat], point(-1, 2)), 0)
        self.assertEqual(winding([hat], point(-1, 0)), 0)
        self.assertEqual(winding([way_of((0, 0), (3, 0), (3, 1), (6, 1), (6, 2), (0, 2))], point(1, 1)), 1)
        self.assertEqual(winding([way_of((0, 0), (3, 0), (3, 1), (6, 1), (6, 2), (0, 2))], point(-1, 1)), 0)

    def test_strokes_that_cross_themselves(self):
        star = way_of((0, 5), (-3, -4), (5, 2), (-5, 2), (3, -4))
        self.assertEqual(winding([star], point(0, 0)), 2)
        self.assertEqual(winding([star], point(0, 4)), 1)
        bow = way_of((0, 0), (4, 4), (4, 0), (0, 4))
        self.assertEqual(winding([bow], point(3, 2)), -1)
        self.assertEqual(winding([bow], point(1, 2)), 1)

    def test_none(self):
        self.assertEqual(winding([], point(1, 1)), 0)
        self.assertIs(inside([], "odd", point(1, 1)), False)


class Bends(unittest.TestCase):
    def test_rings(self):
        for way in (1, -1):
            strokes = [ring((1, 1), (4, 5), way)]
            for p in (point(1, 1), point(3, 4), point(-3, 1), point(1, 5), ((1, 1), (-399, 100))):
                self.assertEqual(winding(strokes, p), way)
            for p in (point(5, 5), point(7, 1), point(-5, 1), point(1, 7), point(1, -5), ((1, 1), (-401, 100)), point(-9, 1)):
                self.assertEqual(winding(strokes, p), 0)
            for p in (point(4, 5), point(6, 1), point(1, 6), point(-4, 1), point(1, -4), point(-2, -3)):
                self.assertIsNone(winding(strokes, p))

    def test_a_point_on_the_straight_way_between_two_quarters(self):
        strokes = [ring((0, 0), (5, 0))]
        for p in (((5, 2), (5, 2)), ((-5, 2), (5, 2)), ((-5, 2), (-5, 2)), ((5, 2), (-5, 2)), point(4, 1), point(1, 4)):
            self.assertEqual(winding(strokes, p), 1)
            self.assertEqual(winding(turned_about(strokes), p), -1)

    def test_beside_a_bend(self):
        # A level leg and a half bend back over it.
        for way, y in ((1, 1), (-1, -1)):
            bow = [("straight", point(-5, 0), point(5, 0)), bend((0, 0), (5, 0), (-5, 0), way)]
            self.assertEqual(winding([bow], point(3, 3 * y)), way)
            self.assertEqual(winding([bow], point(0, 4 * y)), way)
            self.assertEqual(winding([bow], point(4, 4 * y)), 0)
            self.assertEqual(winding([bow], point(-4, 4 * y)), 0)
            self.assertEqual(winding([bow], point(0, -y)), 0)
            self.assertIsNone(winding([bow], point(3, 4 * y)))
            self.assertIsNone(winding([bow], point(0, 0)))
            self.assertEqual(winding([bow], point(3, -4 * y)), 0)

    def test_less_than_a_quarter(self):
        slice_of = [bend((0, 0), (5, 0), (4, 3)), ("straight", point(4, 3), point(5, 0))]
        self.assertEqual(winding([slice_of], ((48, 10), (11, 10))), 1)
        self.assertEqual(winding([slice_of], ((45, 10), (11, 10))), 0)
        self.assertEqual(winding([slice_of], ((50, 10), (11, 10))), 0)
        self.assertEqual(winding(turned_about([slice_of]), ((48, 10), (11, 10))), -1)
        self.assertIsNone(winding([slice_of], ((9, 2), (3, 2))))

    def test_more_than_three_quarters(self):
        most = [bend((0, 0), (5, 0), (4, -3)), ("straight", point(4, -3), point(5, 0))]
        self.assertEqual(winding([most], point(0, 0)), 1)
        self.assertEqual(winding([most], point(0, -4)), 1)
        self.assertEqual(winding([most], ((48, 10), (-11, 10))), 0)

    def test_two_bends_to_both_sides(self):
        # A new moon: out by the wide bend, back by the narrow one.
        moon = [bend((0, 0), (0, -5), (0, 5)), bend((-12, 0), (0, 5), (0, -5), -1)]
        self.assertEqual(winding([moon], point(2, 0)), 1)
        self.assertEqual(winding([moon], point(0, 0)), 0)
        self.assertEqual(winding([moon], ((1, 2), (0, 1))), 0)


class Inside(unittest.TestCase):
    def test_rules(self):
        star = [way_of((0, 5), (-3, -4), (5, 2), (-5, 2), (3, -4))]
        self.assertIs(inside(star, "odd", point(0, 0)), False)
        self.assertIs(inside(star, "wound", point(0, 0)), True)
        self.assertIs(inside(star, "odd", point(0, 4)), True)
        self.assertIs(inside(star, "wound", point(0, 4)), True)
        self.assertIs(inside(turned_about(star), "wound", point(0, 0)), True)
        self.assertIs(inside(turned_about(star), "odd", point(0, 4)), True)
        for rule in ("odd", "wound"):
            self.assertIs(inside(star, rule, point(9, 9)), False)
            self.assertIsNone(inside(star, rule, point(0, 2)))
            self.assertIsNone(inside(star, rule, point(0, 5)))
        three = [SQUARE] * 3
        self.assertIs(inside(three, "odd", point(1, 1)), True)
        self.assertIs(inside(three[1:], "odd", point(1, 1)), False)
        self.assertIs(inside(three[1:], "wound", point(1, 1)), True)
        self.assertIs(inside([SQUARE] + turned_about([SQUARE]), "wound", point(1, 1)), False)


class Any(unittest.TestCase):
    def test_near_reckoning(self):
        chance = source("winding")
        seen = {}
        for _ in range(120):
            strokes = [some_stroke(chance, chance.randint(1, 6)) for _ in range(chance.randint(1, 2))]
            for _ in range(12):
                p = point(Fraction(chance.randint(-24, 24), 4), Fraction(chance.randint(-24, 24), 4))
                wanted, near = rounded_winding(strokes, p)
                told = winding(strokes, p)
                if near > 0.001:
                    self.assertEqual(told, wanted, (strokes, p))
                    self.assertTrue(is_whole(told))
                    self.assertEqual(winding(turned_about(strokes), p), -told)
                    self.assertEqual(winding(strokes * 3, p), 3 * told)
                    self.assertIs(inside(strokes, "odd", p), told % 2 == 1)
                    self.assertIs(inside(strokes, "wound", p), told != 0)
                    seen[told] = seen.get(told, 0) + 1
                elif told is None:
                    seen[None] = seen.get(None, 0) + 1
        for number in (None, -1, 0, 1, 2):
            self.assertGreater(seen[number], 2)

    def test_numbers_of_two_thousand_figures(self):
        strokes = [ring((0, 0), (5, 0)), SQUARE] + [some_stroke(source("long"), 40)]
        near = [(fraction_near(5), (0, 1)), ((1, 3), fraction_near(4)), (fraction_near(3), fraction_near(4))]
        for p in near + [(fraction_near(-2), fraction_near(3))]:
            self.assertTrue(is_whole(winding(strokes, p)))
        self.assertEqual(winding(strokes[:1], near[0]), 1)
        self.assertEqual(winding(strokes[:1], ((5 * BIG + 1, BIG), (0, 1))), 0)
        self.assertEqual(winding(strokes[:1], (fraction_near(3), fraction_near(4))), 1)
        self.assertEqual(winding(strokes[:1], ((3 * BIG + 1, BIG), (4, 1))), 0)
        self.assertEqual(winding(strokes[1:2], ((1, BIG), (1, BIG))), 1)
        # A point of the circle itself.
        t = Fraction(1, 10 ** 999)
        x, y = 5 * (1 - t ** 2) / (1 + t ** 2), 10 * t / (1 + t ** 2)
        self.assertEqual(square(point(x, y), point(0, 0)), 25)
        self.assertIsNone(winding(strokes[:1], point(x, y)))

    def test_nothing_is_changed(self):
        strokes = [SQUARE, ring((0, 0), (5, 0))]
        same = copy.deepcopy(strokes)
        winding(strokes, point(1, 1))
        inside(strokes, "odd", point(1, 1))
        self.assertEqual(strokes, same)

    def test_arguments(self):
        self.assertEqual(names_of(winding), ["strokes", "point"])
        self.assertEqual(names_of(inside), ["strokes", "rule", "point"])


def fraction_near(whole):
    """A fraction of many figures just below a whole number."""
    return (whole * BIG - 1, BIG)


if __name__ == "__main__":
    unittest.main()
