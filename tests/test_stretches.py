"""Dots, stretches and lines [7], [8], [9]."""

import unittest
from math import gcd

from arcmill.errors import MillError, NoKin, NoNumber, NoPiece, NoRow, NoText, TooMuch
from arcmill.points import before, side
from arcmill.stretches import common, cut, line, stretch
from tests.helpers import LONG, exact_point, is_point, is_whole, long_point, names_of, point, some_point, source

P, Q = point(1, 2), point(4, 3)


def sound(piece):
    """Whether it is a dot or a stretch in the form of [7]."""
    if piece[0] == "dot":
        return len(piece) == 2 and is_point(piece[1])
    return (piece[0] == "stretch" and len(piece) == 3 and is_point(piece[1]) and is_point(piece[2])
            and exact_point(piece[1]) < exact_point(piece[2]))


def between(piece, p):
    """Whether p is on a dot or a stretch, by the share of the way at which it is."""
    if piece[0] == "dot":
        return p == piece[1]
    (ax, ay), (bx, by), (x, y) = exact_point(piece[1]), exact_point(piece[2]), exact_point(p)
    share = (x - ax) / (bx - ax) if bx != ax else (y - ay) / (by - ay)
    return 0 <= share <= 1 and (x, y) == (ax + share * (bx - ax), ay + share * (by - ay))


def small_stretches(chance, many):
    told = []
    while len(told) < many:
        p, q = some_point(chance, 3, 2), some_point(chance, 3, 2)
        if p != q:
            told.append(("stretch", min(p, q, key=exact_point), max(p, q, key=exact_point)))
    return told


class Stretch(unittest.TestCase):
    def test_alike_points_are_a_dot(self):
        self.assertEqual(stretch(P, P), ("dot", P))
        self.assertEqual(stretch(point(0, 0), point(0, 0)), ("dot", point(0, 0)))

    def test_the_first_point_is_before_the_second(self):
        self.assertEqual(stretch(P, Q), ("stretch", P, Q))
        self.assertEqual(stretch(Q, P), ("stretch", P, Q))

    def test_upright_and_level(self):
        low, high = ((1, 2), (1, 3)), ((1, 2), (1, 2))
        self.assertEqual(stretch(high, low), ("stretch", low, high))
        self.assertEqual(stretch(low, high), ("stretch", low, high))
        left, right = ((5, 9), (7, 1)), ((1, 1), (7, 1))
        self.assertEqual(stretch(right, left), ("stretch", left, right))

    def test_many_figures(self):
        chance = source("stretch")
        for _ in range(50):
            p, q = long_point(chance), long_point(chance)
            self.assertTrue(sound(stretch(p, q)))
            self.assertEqual(stretch(p, q), stretch(q, p))
            self.assertEqual(set(stretch(p, q)[1:]), {p, q})


class Line(unittest.TestCase):
    def test_by_hand(self):
        self.assertEqual(line(point(0, 0), point(1, 1)), ("line", 1, -1, 0))
        self.assertEqual(line(point(0, 2), point(3, 0)), ("line", 2, 3, 6))
        self.assertEqual(line(point(0, 6), point(3, 0)), ("line", 2, 1, 6))
        self.assertEqual(line(((1, 2), (0, 1)), ((0, 1), (1, 3))), ("line", 2, 3, 1))
        self.assertEqual(line(((1, 7), (1, 7)), ((2, 7), (1, 7))), ("line", 0, 7, 1))

    def test_upright(self):
        self.assertEqual(line(point(3, 0), point(3, 5)), ("line", 1, 0, 3))
        self.assertEqual(line(point(3, 5), point(3, 0)), ("line", 1, 0, 3))
        self.assertEqual(line(((-3, 4), (0, 1)), ((-3, 4), (1, 9))), ("line", 4, 0, -3))
        self.assertEqual(line(point(0, 1), point(0, -1)), ("line", 1, 0, 0))

    def test_level(self):
        self.assertEqual(line(point(3, 2), point(-8, 2)), ("line", 0, 1, 2))
        self.assertEqual(line(point(-8, 2), point(3, 2)), ("line", 0, 1, 2))
        self.assertEqual(line(((0, 1), (-5, 6)), ((1, 2), (-5, 6))), ("line", 0, 6, -5))
        self.assertEqual(line(point(0, 0), point(9, 0)), ("line", 0, 1, 0))

    def held(self, p, q):
        told = line(p, q)
        word, a, b, d = told
        self.assertEqual(word, "line")
        self.assertTrue(all(is_whole(part) for part in (a, b, d)))
        self.assertEqual(gcd(a, b, d), 1)
        self.assertTrue(a > 0 or a == 0 and b > 0, told)
        for x, y in (exact_point(p), exact_point(q)):
            self.assertEqual(a * x + b * y, d)
        self.assertEqual(line(q, p), told)

    def test_all_that_8_says(self):
        chance = source("line")
        for _ in range(300):
            p, q = some_point(chance), some_point(chance)
            if p != q:
                self.held(p, q)
        for _ in range(60):
            self.held(long_point(chance), long_point(chance))

    def test_alike_points_are_refused(self):
        for p in (P, point(0, 0), ((LONG, 7), (1, LONG))):
            with self.assertRaises(NoPiece) as told:
                line(p, p)
            self.assertIsInstance(told.exception, MillError)
            self.assertIsInstance(told.exception, ValueError)
            for other in (NoNumber, TooMuch, NoKin, NoRow, NoText):
                self.assertNotIsInstance(told.exception, other)


class Common(unittest.TestCase):
    def held(self, one, other, expected):
        self.assertEqual(common(one, other), expected)
        self.assertEqual(common(other, one), expected)

    def test_two_dots(self):
        self.held(("dot", P), ("dot", P), ("dot", P))
        self.held(("dot", P), ("dot", Q), None)

    def test_a_dot_and_a_stretch(self):
        way = stretch(point(0, 0), point(4, 2))
        for p in (point(0, 0), point(4, 2), point(2, 1), ((1, 3), (1, 6))):
            self.held(("dot", p), way, ("dot", p))
        for p in (point(6, 3), point(-2, -1), point(2, 2), point(1, 0), point(0, 2)):
            self.held(("dot", p), way, None)

    def test_a_dot_and_an_upright_stretch(self):
        way = stretch(point(1, -1), point(1, 3))
        self.held(("dot", point(1, 0)), way, ("dot", point(1, 0)))
        self.held(("dot", point(1, 3)), way, ("dot", point(1, 3)))
        self.held(("dot", point(1, 4)), way, None)
        self.held(("dot", point(1, -2)), way, None)
        self.held(("dot", point(2, 0)), way, None)

    def test_crossing(self):
        self.held(stretch(point(0, 0), point(1, 1)), stretch(point(0, 1), point(1, 0)), ("dot", ((1, 2), (1, 2))))
        self.held(stretch(point(0, 0), point(3, 0)), stretch(point(1, -1), point(2, 4)), ("dot", ((6, 5), (0, 1))))
        self.held(stretch(point(0, 0), point(0, 3)), stretch(point(-1, 1), point(1, 1)), ("dot", point(0, 1)))

    def test_touching_across(self):
        self.held(stretch(point(0, 0), point(2, 0)), stretch(point(1, 0), point(1, 5)), ("dot", point(1, 0)))
        self.held(stretch(point(0, 0), point(2, 0)), stretch(point(2, 0), point(3, 5)), ("dot", point(2, 0)))

    def test_lines_cross_but_not_the_stretches(self):
        self.held(stretch(point(0, 0), point(1, 1)), stretch(point(0, 9), point(9, 0)), None)
        self.held(stretch(point(0, 0), point(2, 0)), stretch(point(1, 1), point(1, 5)), None)
        self.held(stretch(point(0, 0), point(2, 0)), stretch(point(3, -1), point(3, 5)), None)

    def test_side_by_side(self):
        self.held(stretch(point(0, 0), point(4, 2)), stretch(point(0, 1), point(4, 3)), None)
        self.held(stretch(point(0, 0), point(0, 2)), stretch(point(1, 0), point(1, 2)), None)

    def test_on_one_line(self):
        for dx, dy in ((1, 0), (0, 1), (3, 2), (3, -2)):
            def at(k):
                return point(k * dx, k * dy)
            with self.subTest((dx, dy)):
                way = stretch(at(0), at(4))
                self.held(way, way, way)
                self.held(way, stretch(at(4), at(6)), ("dot", at(4)))
                self.held(way, stretch(at(-3), at(0)), ("dot", at(0)))
                self.held(way, stretch(at(5), at(6)), None)
                self.held(way, stretch(at(-2), at(-1)), None)
                self.held(way, stretch(at(3), at(6)), stretch(at(3), at(4)))
                self.held(way, stretch(at(-3), at(1)), stretch(at(0), at(1)))
                self.held(way, stretch(at(1), at(2)), stretch(at(1), at(2)))
                self.held(way, stretch(at(0), at(2)), stretch(at(0), at(2)))
                self.held(way, stretch(at(2), at(4)), stretch(at(2), at(4)))
                self.held(way, stretch(at(-1), at(9)), way)

    def test_held_against_another_way(self):
        chance = source("common")
        ways = small_stretches(chance, 90)
        found = {None: 0, "dot": 0, "stretch": 0}
        for one in ways:
            for other in ways:
                told = common(one, other)
                found[told[0] if told else None] += 1
                self.assertEqual(told, self.by_sides(one, other, told))
        self.assertTrue(all(found.values()), found)

    def by_sides(self, one, other, told):
        """What must be told: found by sides and by order alone, and the crossing by holding it against both."""
        sides = [side(one[1], one[2], p) for p in other[1:]]
        backs = [side(other[1], other[2], p) for p in one[1:]]
        if sides == [0, 0]:
            low, high = sorted(one[1:] + other[1:], key=exact_point)[1:3]
            if low == high:
                return ("dot", low)
            inner = (one if between(one, low) and between(one, high) else None)
            return ("stretch", low, high) if inner and between(other, low) and between(other, high) else None
        if sides[0] * sides[1] > 0 or backs[0] * backs[1] > 0:
            return None
        return told if told[0] == "dot" and between(one, told[1]) and between(other, told[1]) else "wrong"

    def test_many_figures(self):
        chance = source("common of many figures")
        for _ in range(40):
            p, q, r = long_point(chance), long_point(chance), long_point(chance)
            self.held(stretch(p, q), stretch(q, r), ("dot", q))
            self.held(stretch(p, q), stretch(q, p), stretch(p, q))
            middle = tuple((a[0] * b[1] + b[0] * a[1], 2 * a[1] * b[1]) for a, b in zip(p, q))
            middle = point(*exact_point(middle))
            self.held(stretch(p, q), stretch(middle, q), stretch(middle, q))
            self.held(stretch(p, middle), stretch(middle, q), ("dot", middle))
            self.held(stretch(p, q), stretch(middle, r), ("dot", middle))


class Cut(unittest.TestCase):
    WAY = ("stretch", point(0, 0), point(4, 2))

    def test_within(self):
        self.assertEqual(cut(self.WAY, point(2, 1)), [("stretch", point(0, 0), point(2, 1)),
                                                     ("stretch", point(2, 1), point(4, 2))])

    def test_upright_and_level(self):
        up = ("stretch", point(1, -1), point(1, 3))
        self.assertEqual(cut(up, point(1, 0)), [("stretch", point(1, -1), point(1, 0)),
                                                ("stretch", point(1, 0), point(1, 3))])
        self.assertEqual(cut(up, point(1, 4)), [up])
        level = ("stretch", point(-1, 5), point(3, 5))
        self.assertEqual(cut(level, point(0, 5)), [("stretch", point(-1, 5), point(0, 5)),
                                                   ("stretch", point(0, 5), point(3, 5))])
        self.assertEqual(cut(level, point(-2, 5)), [level])

    def test_at_an_end(self):
        self.assertEqual(cut(self.WAY, point(0, 0)), [self.WAY])
        self.assertEqual(cut(self.WAY, point(4, 2)), [self.WAY])

    def test_off_the_stretch(self):
        for p in (point(6, 3), point(-2, -1), point(2, 2), point(2, 0), ((2, 1), (LONG - 1, LONG))):
            self.assertEqual(cut(self.WAY, p), [self.WAY])

    def test_held_against_another_way(self):
        chance = source("cut")
        for way in small_stretches(chance, 60):
            for p in [some_point(chance, 3, 2) for _ in range(20)] + list(way[1:]):
                told = cut(way, p)
                within = between(way, p) and p not in way[1:]
                self.assertEqual(told, [("stretch", way[1], p), ("stretch", p, way[2])] if within else [way])
                self.assertTrue(all(sound(piece) for piece in told))

    def test_many_figures(self):
        way = ("stretch", ((-LONG, 1), (-1, LONG)), ((LONG, 1), (1, LONG)))
        self.assertEqual(cut(way, point(0, 0)), [("stretch", way[1], point(0, 0)), ("stretch", point(0, 0), way[2])])
        self.assertEqual(cut(way, ((0, 1), (1, LONG ** 3))), [way])

    def test_the_list_is_the_asker_s_own(self):
        for p in (point(2, 1), point(9, 9)):
            told = cut(self.WAY, p)
            kept = list(told)
            told.clear()
            self.assertEqual(cut(self.WAY, p), kept)
            self.assertIsNot(cut(self.WAY, p), cut(self.WAY, p))


class Interface(unittest.TestCase):
    def test_arguments(self):
        self.assertEqual(names_of(stretch), ["p", "q"])
        self.assertEqual(names_of(line), ["p", "q"])
        self.assertEqual(names_of(common), ["one", "other"])
        self.assertEqual(names_of(cut), ["piece", "p"])

    def test_made_stretches_keep_to_before(self):
        self.assertTrue(before(*stretch(Q, P)[1:]))


if __name__ == "__main__":
    unittest.main()
