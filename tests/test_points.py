"""Points [6]."""

import unittest

from arcmill.points import before, far, grown, off, side, together, turned
from tests.helpers import (LONG, exact, exact_point, fraction, is_fraction, is_point, is_whole, long_point, names_of,
                           point, some_number, some_point, source)

MIDDLE = ((0, 1), (0, 1))


def pairs():
    chance = source("points")
    for _ in range(200):
        yield some_point(chance), some_point(chance)
    for _ in range(40):
        yield long_point(chance), long_point(chance)


class Sums(unittest.TestCase):
    def test_by_hand(self):
        p, q = ((1, 2), (-3, 1)), ((1, 3), (2, 5))
        self.assertEqual(together(p, q), ((5, 6), (-13, 5)))
        self.assertEqual(off(p, q), ((1, 6), (-17, 5)))
        self.assertEqual(off(q, p), ((-1, 6), (17, 5)))
        self.assertEqual(together(p, MIDDLE), p)
        self.assertEqual(off(p, p), MIDDLE)
        self.assertEqual(grown(p, (2, 3)), ((1, 3), (-2, 1)))
        self.assertEqual(grown(p, (-1, 1)), ((-1, 2), (3, 1)))
        self.assertEqual(grown(p, (0, 1)), MIDDLE)

    def test_held_against_python_s_own(self):
        chance = source("grown")
        for p, q in pairs():
            (px, py), (qx, qy) = exact_point(p), exact_point(q)
            number = some_number(chance)
            self.assertEqual(together(p, q), point(px + qx, py + qy))
            self.assertEqual(off(p, q), point(px - qx, py - qy))
            self.assertEqual(grown(p, fraction(number)), point(px * number, py * number))
            for told in (together(p, q), off(p, q), grown(p, q[0])):
                self.assertTrue(is_point(told), told)


class Turned(unittest.TestCase):
    P = ((3, 1), (1, 2))
    ROUND = [((3, 1), (1, 2)), ((-1, 2), (3, 1)), ((-3, 1), (-1, 2)), ((1, 2), (-3, 1))]

    def test_each_count(self):
        for quarters in range(-12, 13):
            self.assertEqual(turned(self.P, quarters), self.ROUND[quarters % 4], quarters)

    def test_counts_of_many_figures(self):
        for many in (10 ** 59, 10 ** 59 + 1, LONG, LONG - 1, 10 ** 59 + 6):
            self.assertEqual(turned(self.P, many), self.ROUND[many % 4])
            self.assertEqual(turned(self.P, -many), self.ROUND[-many % 4])

    def test_quarter_to_the_left_and_to_the_right(self):
        self.assertEqual(turned(((1, 1), (0, 1)), 1), ((0, 1), (1, 1)))
        self.assertEqual(turned(((1, 1), (0, 1)), -1), ((0, 1), (-1, 1)))
        self.assertEqual(turned(MIDDLE, 3), MIDDLE)

    def test_one_quarter_behind_another(self):
        for p, q in pairs():
            x, y = exact_point(p)
            self.assertEqual(turned(p, 1), point(-y, x))
            self.assertEqual(turned(turned(p, 1), 1), turned(p, 2))
            self.assertEqual(turned(turned(p, 3), -3), p)
            self.assertTrue(is_point(turned(q, 7)))


class Far(unittest.TestCase):
    def test_by_hand(self):
        self.assertEqual(far(MIDDLE, point(3, 4)), (25, 1))
        self.assertEqual(far(((1, 2), (0, 1)), ((0, 1), (1, 3))), (13, 36))
        self.assertEqual(far(point(5, 5), point(5, 5)), (0, 1))

    def test_held_against_python_s_own(self):
        for p, q in pairs():
            (px, py), (qx, qy) = exact_point(p), exact_point(q)
            self.assertEqual(exact(far(p, q)), (px - qx) ** 2 + (py - qy) ** 2)
            self.assertEqual(far(p, q), far(q, p))
            self.assertTrue(is_fraction(far(p, q)))


class Side(unittest.TestCase):
    def test_by_hand(self):
        a, b = point(1, 1), point(3, 1)
        self.assertEqual(side(a, b, point(2, 2)), 1)
        self.assertEqual(side(a, b, point(2, 0)), -1)
        self.assertEqual(side(b, a, point(2, 2)), -1)
        self.assertEqual(side(b, a, point(2, 0)), 1)
        self.assertEqual(side(a, b, point(-7, 3)), 1)

    def test_straight_ahead_between_and_behind(self):
        a, b = point(1, 1), point(3, 2)
        for p in (point(5, 3), point(-1, 0), a, b, ((2, 1), (3, 2))):
            self.assertEqual(side(a, b, p), 0)

    def test_alike_points(self):
        for p in (point(1, 1), point(9, -4), MIDDLE):
            self.assertEqual(side(point(1, 1), point(1, 1), p), 0)

    def test_upright(self):
        a, b = point(2, 0), point(2, 5)
        self.assertEqual(side(a, b, point(1, 0)), 1)
        self.assertEqual(side(a, b, point(3, 0)), -1)
        self.assertEqual(side(a, b, point(2, -9)), 0)

    def test_hardly_beside(self):
        a, b = MIDDLE, ((LONG, 1), (LONG - 1, 1))
        self.assertEqual(side(a, b, ((LONG - 1, 1), (LONG - 2, 1))), -1)
        self.assertEqual(side(a, b, ((LONG + 1, 1), (LONG, 1))), 1)
        self.assertEqual(side(a, b, grown(b, (1, LONG))), 0)

    def test_held_against_python_s_own(self):
        chance = source("side")
        for a, b in pairs():
            p = some_point(chance)
            (ax, ay), (bx, by), (px, py) = exact_point(a), exact_point(b), exact_point(p)
            cross = (bx - ax) * (py - ay) - (by - ay) * (px - ax)
            told = side(a, b, p)
            self.assertEqual(told, (cross > 0) - (cross < 0))
            self.assertTrue(is_whole(told))


class Before(unittest.TestCase):
    def test_by_hand(self):
        self.assertIs(before(point(1, 9), point(2, -9)), True)
        self.assertIs(before(point(2, -9), point(1, 9)), False)

    def test_same_x(self):
        self.assertIs(before(((1, 2), (1, 3)), ((1, 2), (1, 2))), True)
        self.assertIs(before(((1, 2), (1, 2)), ((1, 2), (1, 3))), False)

    def test_same_y(self):
        self.assertIs(before(((1, 3), (5, 1)), ((1, 2), (5, 1))), True)
        self.assertIs(before(((1, 2), (5, 1)), ((1, 3), (5, 1))), False)

    def test_alike_points(self):
        self.assertIs(before(point(1, 2), point(1, 2)), False)

    def test_not_in_the_order_of_tuples(self):
        self.assertIs(before(((5, 9), (0, 1)), ((1, 1), (0, 1))), True)
        self.assertIs(before(((0, 1), (5, 9)), ((0, 1), (1, 1))), True)

    def test_held_against_python_s_own(self):
        for p, q in pairs():
            self.assertIs(before(p, q), exact_point(p) < exact_point(q))


class Interface(unittest.TestCase):
    def test_arguments(self):
        for deed in (together, off, far, before):
            self.assertEqual(names_of(deed), ["p", "q"])
        self.assertEqual(names_of(grown), ["p", "number"])
        self.assertEqual(names_of(turned), ["p", "quarters"])
        self.assertEqual(names_of(side), ["a", "b", "p"])


if __name__ == "__main__":
    unittest.main()
