"""The reach and the span of an end [28], [29]."""

import unittest
from fractions import Fraction

from arcmill.ends import reach, span
from arcmill.errors import MillError, TooMuch
from arcmill.frames import first, led_piece
from arcmill.movers import count, kind, power
from tests.helpers import (LONG, about, an_end, exact, exact_point, fraction, has, is_fraction, is_whole, long_point,
                           names_of, point, some_frame, some_piece, some_point, some_point_of, source, square)

MIDDLE = point(0, 0)
RIGHT = (point(2, 0), 0, 1, (1, 1))
GLIDE = (point(3, 4), 0, -1, (1, 1))
HALF = (MIDDLE, 0, 1, (1, 2))


def dot(x, y):
    return ("dot", point(x, y))


def slow_reach(end):
    """The reach by the words of the document, with Python's own fractions."""
    sort, pieces = kind(end[0]), [row[0] for row in end[3]]
    if sort[0] == "round":
        return None
    numbers = []
    for piece in pieces:
        if piece[0] in ("dot", "stretch"):
            for p in piece[1:]:
                numbers.append(height(p, sort[1]) if sort[0] == "on" else square(p, sort[1]))
        elif sort[0] == "on":
            (cx, cy), (px, py), (wx, wy) = [exact_point(p) for p in (piece[1], piece[2], sort[1])]
            room = (abs(px - cx) + abs(py - cy)) * (abs(wx) + abs(wy))
            numbers += [height(piece[1], sort[1]) - room, height(piece[1], sort[1]) + room]
        else:
            numbers.append(2 * (square(piece[1], sort[1]) + square(piece[1], piece[2])))
    if sort[0] == "on":
        return (fraction(min(numbers)), fraction(max(numbers)))
    return fraction(max(numbers))


def height(p, w):
    (x, y), (wx, wy) = exact_point(p), exact_point(w)
    return x * wx + y * wy


def slow_span(end, p):
    """The span by the words of the document, round by round."""
    sort, far_reach, many = kind(end[0]), slow_reach(end), count(end[0])
    if sort[0] == "round":
        return (0, many)
    if sort[0] == "smaller":
        n, number, size = 0, exact(far_reach), exact(end[0][3])
        while p != sort[1] and number >= square(p, sort[1]):
            n, number = n + 1, number * size ** 2
        return (0, 1 if p == sort[1] else n)
    low, high, h, k = exact(far_reach[0]), exact(far_reach[1]), height(p, sort[1]), height(sort[1], sort[1]) / many
    start = 0
    while high + start * k < h:
        start += 1
    stop = start
    while low + stop * k <= h:
        stop += 1
    return (start, stop)


class Reach(unittest.TestCase):
    def test_round(self):
        self.assertIsNone(reach(an_end(first(), [dot(1, 2)])))
        self.assertIsNone(reach(an_end((point(5, 1), 1, 1, (1, 1)), [dot(1, 2), ("ring", MIDDLE, point(3, 4))])))

    def test_on(self):
        self.assertEqual(reach(an_end(RIGHT, [dot(3, 7)])), ((6, 1), (6, 1)))
        self.assertEqual(reach(an_end(RIGHT, [("stretch", point(-1, 5), point(4, 0))])), ((-2, 1), (8, 1)))
        self.assertEqual(reach(an_end(RIGHT, [("ring", point(1, 1), point(4, 5))])), ((-12, 1), (16, 1)))
        self.assertEqual(reach(an_end(RIGHT, [("arc", point(1, 1), point(6, 1), point(1, 6))])), ((-8, 1), (12, 1)))
        self.assertEqual(reach(an_end(RIGHT, [dot(3, 7), dot(-9, 0), ("ring", MIDDLE, point(0, 1))])), ((-18, 1), (6, 1)))
        # The plain map of the glide leads on by (6, 0).
        self.assertEqual(reach(an_end(GLIDE, [("stretch", point(0, 0), point(1, 1))])), ((0, 1), (6, 1)))

    def test_on_a_slant(self):
        slant = (point(1, -2), 0, 1, (1, 1))
        self.assertEqual(reach(an_end(slant, [("ring", point(3, 1), point(3, 3))])), ((-5, 1), (7, 1)))
        self.assertEqual(reach(an_end(slant, [("stretch", point(0, 5), point(1, 0))])), ((-10, 1), (1, 1)))

    def test_smaller(self):
        self.assertEqual(reach(an_end(HALF, [dot(3, 4), dot(0, 1)])), (25, 1))
        self.assertEqual(reach(an_end(HALF, [("stretch", point(-6, 0), point(1, 1))])), (36, 1))
        self.assertEqual(reach(an_end(HALF, [("ring", point(1, 1), point(1, 3))])), (12, 1))
        self.assertEqual(reach(an_end(HALF, [("arc", point(3, 4), point(3, 9), point(8, 4)), dot(8, 7)])), (113, 1))
        self.assertEqual(reach(an_end(about(point(2, 1), 1, -1, (Fraction(2, 3))), [dot(5, 5)])), (25, 1))
        self.assertEqual(reach(an_end(HALF, [("dot", MIDDLE)])), (0, 1))

    def test_by_the_words(self):
        chance = source("reach")
        for _ in range(200):
            end = an_end(some_map(chance), [some_piece(chance) for _ in range(chance.randint(1, 6))])
            told = reach(end)
            self.assertEqual(told, slow_reach(end))
            if told is not None:
                self.assertTrue(is_fraction(told) if kind(end[0])[0] == "smaller" else all(map(is_fraction, told)))

    def test_many_figures(self):
        chance = source("long reach")
        for frame in (RIGHT, GLIDE, HALF, (long_point(chance), 0, 1, (1, 1)), (long_point(chance), 3, 1, (LONG - 1, 2 * LONG))):
            p, q = sorted((long_point(chance), long_point(chance)), key=exact_point)
            end = an_end(frame, [("stretch", p, q), ("ring", q, p)])
            self.assertEqual(reach(end), slow_reach(end))


def some_map(chance):
    frame = some_frame(chance)
    return frame[:3] + (chance.choice([(1, 1), (1, 1), (1, 2), (3, 4), (1, 12), (5, 7)]),)


class Span(unittest.TestCase):
    def test_round(self):
        for frame, many in ((first(), 1), ((point(5, 1), 1, 1, (1, 1)), 4), ((point(5, 1), 2, 1, (1, 1)), 2),
                            ((point(0, 1), 0, -1, (1, 1)), 2)):
            for p in (MIDDLE, point(9, 9)):
                self.assertEqual(span(an_end(frame, [dot(1, 2)]), p), (0, many))

    def test_on(self):
        end = an_end(RIGHT, [("stretch", point(0, 0), point(3, 0))])
        self.assertEqual(span(end, point(0, 0)), (0, 1))
        self.assertEqual(span(end, point(2, 5)), (0, 2))
        self.assertEqual(span(end, point(3, 0)), (0, 2))
        self.assertEqual(span(end, point(5, 0)), (1, 3))
        self.assertEqual(span(end, ((11, 2), (0, 1))), (2, 3))
        self.assertEqual(span(end, point(-1, 0)), (0, 0))
        self.assertEqual(span(end, point(-100, 0)), (0, 0))
        self.assertEqual(span(end, point(101, 0)), (49, 51))
        # Where there is a gap between two rounds none can have the point.
        self.assertEqual(span(an_end(RIGHT, [dot(0, 0)]), point(3, 0)), (2, 2))
        self.assertEqual(span(an_end(GLIDE, [dot(0, 0)]), point(3, 0)), (1, 2))
        self.assertEqual(span(an_end(GLIDE, [dot(0, 0)]), point(4, 0)), (2, 2))

    def test_smaller(self):
        end = an_end(HALF, [dot(4, 0)])
        self.assertEqual(span(end, point(5, 0)), (0, 0))
        self.assertEqual(span(end, point(4, 0)), (0, 1))
        self.assertEqual(span(end, point(0, 3)), (0, 1))
        self.assertEqual(span(end, point(0, 2)), (0, 2))
        self.assertEqual(span(end, MIDDLE), (0, 1))
        self.assertEqual(span(an_end(HALF, [("dot", MIDDLE)]), MIDDLE), (0, 1))
        self.assertEqual(span(an_end(HALF, [("dot", MIDDLE)]), point(1, 0)), (0, 0))
        # The size of the map counts, not that of its plain map.
        self.assertEqual(span(an_end((MIDDLE, 1, 1, (1, 2)), [dot(4, 0)]), point(0, 1)), (0, 3))

    def test_by_the_words(self):
        chance = source("span")
        for _ in range(300):
            end = an_end(some_map(chance), [some_piece(chance) for _ in range(chance.randint(1, 6))])
            p = kind(end[0])[1] if kind(end[0])[0] == "smaller" and chance.random() < .1 else some_point(chance, 20)
            told = span(end, p)
            self.assertEqual(told, slow_span(end, p))
            self.assertTrue(type(told) is tuple and all(map(is_whole, told)))

    def test_no_other_round_has_the_point(self):
        chance = source("other rounds")
        for _ in range(150):
            end = an_end(some_map(chance), [some_piece(chance, 4, 2)])
            n = chance.randint(0, 8)
            p = some_point_of(chance, led_piece(power(end[0], n), end[3][0][0]))
            start, stop = span(end, p)
            if kind(end[0])[0] == "round" or kind(end[0])[1] == p:
                continue
            for k in list(range(max(0, start - 3), start)) + list(range(stop, stop + 3)):
                self.assertFalse(has(led_piece(power(end[0], k), end[3][0][0]), p))

    def test_just_a_thousand_rounds_and_one_more(self):
        for far_end, many in ((999, 1000), (1000, 1001)):
            end = an_end((point(1, 0), 0, 1, (1, 1)), [("stretch", point(0, 0), point(far_end, 0))])
            deep = an_end(HALF, [dot(2 ** far_end, 0)])
            if many == 1000:
                self.assertEqual(span(end, point(5000, 0)), (5000 - far_end, 5001))
                self.assertEqual(span(deep, point(0, 1)), (0, 1000))
            else:
                # Only rounds that are there count.
                self.assertEqual(span(end, point(20, 0)), (0, 21))
                for wide, p in ((end, point(5000, 0)), (deep, point(0, 1))):
                    with self.assertRaises(TooMuch) as caught:
                        span(wide, p)
                    self.assertIsInstance(caught.exception, MillError)

    def test_many_figures(self):
        end = an_end((((1, LONG), (0, 1)), 0, 1, (1, 1)), [dot(0, 0)])
        self.assertEqual(span(end, point(LONG, 0)), (LONG ** 2, LONG ** 2 + 1))
        far_end = an_end((((3, 4), (0, 1)), 0, 1, (3, 4)), [("ring", ((LONG, 7), (1, LONG)), ((LONG, 7), (2, LONG)))])
        self.assertEqual(span(far_end, point(3, 1)), slow_span(far_end, point(3, 1)))
        self.assertEqual(span(far_end, ((3, 1), (1, LONG))), slow_span(far_end, ((3, 1), (1, LONG))))
        near = fraction(4, LONG - 1)
        with self.assertRaises(TooMuch):
            span(an_end((((1, LONG), (0, 1)), 0, 1, (3, 4)), [dot(LONG, LONG)]), (near, (0, 1)))
        size = (LONG // 2, LONG)
        end = an_end(about(point(1, 1), 3, 1, Fraction(*size)), [dot(LONG, LONG)])
        self.assertEqual(span(end, ((2, 1), (1, LONG))), slow_span(end, ((2, 1), (1, LONG))))

    def test_nothing_handed_in_is_changed(self):
        end = an_end(RIGHT, [("stretch", point(0, 0), point(3, 0)), dot(9, 9)])
        same = an_end(RIGHT, [("stretch", point(0, 0), point(3, 0)), dot(9, 9)])
        reach(end)
        span(end, point(1, 1))
        self.assertEqual(end, same)


class Interface(unittest.TestCase):
    def test_arguments(self):
        self.assertEqual(names_of(reach), ["end"])
        self.assertEqual(names_of(span), ["end", "point"])


if __name__ == "__main__":
    unittest.main()
