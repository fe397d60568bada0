"""A point asked of a drawing [30], [31]."""

import copy
import unittest
from fractions import Fraction

from arcmill.asked import asked, end_has
from arcmill.ends import span
from arcmill.errors import TooMuch
from arcmill.frames import led_piece
from arcmill.movers import kind, power
from tests.helpers import (LONG, a_drawing, about, an_end, exact_point, has, is_whole, long_point, names_of, point,
                           some_frame, some_piece, some_point, some_point_of, source)

MIDDLE = point(0, 0)
RIGHT = (point(2, 0), 0, 1, (1, 1))
UP = (point(0, 2), 0, 1, (1, 1))
GLIDE = (point(3, 0), 0, -1, (1, 1))
QUARTER = (MIDDLE, 1, 1, (1, 1))
HALF = (MIDDLE, 0, 1, (1, 2))


def dot(x, y):
    return ("dot", point(x, y))


def slow_has(end, n, p):
    for k, row in enumerate(end[3]):
        if has(led_piece(power(end[0], n), row[0]), p):
            return k
    return None


def slow_asked(drawing, p):
    """What is told by the words of the document, round by round."""
    for k, row in enumerate(drawing[0]):
        if has(row[0], p):
            return ("still", k)
    spans = []
    for e, end in enumerate(drawing[1]):
        spans.append(span(end, p))
        for n in range(*spans[-1]):
            k = slow_has(end, n, p)
            if k is not None:
                return ("end", e, k, n)
    return ("out", spans)


class Asked(unittest.TestCase):
    def test_still(self):
        drawing = a_drawing([dot(1, 1), ("stretch", point(0, 0), point(4, 0)), ("ring", MIDDLE, point(4, 0)),
                             ("arc", MIDDLE, point(5, 0), point(-5, 0))])
        self.assertEqual(asked(drawing, point(1, 1)), ("still", 0))
        self.assertEqual(asked(drawing, point(2, 0)), ("still", 1))
        self.assertEqual(asked(drawing, point(4, 0)), ("still", 1))
        self.assertEqual(asked(drawing, point(0, -4)), ("still", 2))
        self.assertEqual(asked(drawing, point(3, 4)), ("still", 3))
        self.assertEqual(asked(drawing, point(3, -4)), ("out", []))
        self.assertEqual(asked(a_drawing([]), MIDDLE), ("out", []))

    def test_still_goes_first_and_then_the_first_end(self):
        drawing = a_drawing([dot(4, 0)], [(UP, [dot(0, 0)]), (RIGHT, [dot(0, 0), dot(-2, 0)])])
        self.assertEqual(asked(drawing, point(4, 0)), ("still", 0))
        self.assertEqual(asked(drawing, point(0, 0)), ("end", 0, 0, 0))
        self.assertEqual(asked(drawing, point(6, 0)), ("end", 1, 0, 3))
        self.assertEqual(asked(drawing, point(-2, 0)), ("end", 1, 1, 0))
        self.assertEqual(asked(drawing, point(1, 0)), ("out", [(0, 1), (1, 2)]))

    def test_the_least_round_goes_ahead_of_the_least_piece(self):
        drawing = a_drawing([], [(RIGHT, [dot(0, 0), dot(2, 0), ("stretch", point(2, -1), point(2, 1))])])
        self.assertEqual(asked(drawing, point(2, 0)), ("end", 0, 1, 0))
        self.assertEqual(asked(drawing, point(0, 0)), ("end", 0, 0, 0))
        self.assertEqual(asked(drawing, point(2, 1)), ("end", 0, 2, 0))
        self.assertEqual(asked(drawing, point(200, 0)), ("end", 0, 1, 99))

    def test_late_rounds(self):
        ring = ("ring", MIDDLE, point(3, 4))
        self.assertEqual(asked(a_drawing([], [(RIGHT, [ring])]), point(2003, 4)), ("end", 0, 0, 1000))
        self.assertEqual(asked(a_drawing([], [(RIGHT, [ring])]), point(10 ** 59 + 3, 4)), ("end", 0, 0, 10 ** 59 // 2))
        self.assertEqual(asked(a_drawing([], [(GLIDE, [dot(0, 5)])]), point(3 * 99, -5)), ("end", 0, 0, 99))
        self.assertEqual(asked(a_drawing([], [(GLIDE, [dot(0, 5)])]), point(3 * 99, 5)), ("out", [(99, 100)]))
        small = ((3, 2 ** 500), (4, 2 ** 500))
        self.assertEqual(asked(a_drawing([], [(HALF, [ring])]), small), ("end", 0, 0, 500))
        self.assertEqual(asked(a_drawing([], [((MIDDLE, 1, 1, (1, 2)), [dot(5, 0)])]), ((0, 1), (-5, 2 ** 303))),
                         ("end", 0, 0, 303))
        for low in (-8, 0):
            through = a_drawing([], [(HALF, [("stretch", point(low, 0), point(8, 0))])])
            self.assertEqual(asked(through, ((1, 3), (0, 1))), ("end", 0, 0, 0))
            self.assertEqual(asked(through, point(9, 0)), ("out", [(0, 0)]))
            self.assertEqual(asked(through, point(1, 1)), ("out", [(0, 3)]))

    def test_kinds_round(self):
        drawing = a_drawing([], [(QUARTER, [("stretch", point(1, 0), point(3, 0)), dot(0, 2)])])
        self.assertEqual(asked(drawing, point(2, 0)), ("end", 0, 0, 0))
        self.assertEqual(asked(drawing, point(0, 2)), ("end", 0, 1, 0))
        self.assertEqual(asked(drawing, point(0, 3)), ("end", 0, 0, 1))
        self.assertEqual(asked(drawing, point(-3, 0)), ("end", 0, 0, 2))
        self.assertEqual(asked(drawing, point(0, -1)), ("end", 0, 0, 3))
        self.assertEqual(asked(drawing, point(2, 2)), ("out", [(0, 4)]))

    def test_the_middle_of_an_end(self):
        for middle in (MIDDLE, point(2, -3), ((1, 3), (5, 7))):
            x, y = exact_point(middle)
            frame = about(middle, 3, -1, Fraction(3, 4))
            through = ("stretch", point(x - 1, y), point(x + 1, y))
            self.assertEqual(asked(a_drawing([], [(frame, [("dot", middle)])]), middle), ("end", 0, 0, 0))
            self.assertEqual(asked(a_drawing([], [(frame, [dot(90, 1), through])]), middle), ("end", 0, 1, 0))
            self.assertEqual(asked(a_drawing([], [(frame, [("ring", middle, point(9, 9))])]), middle), ("out", [(0, 1)]))
            self.assertEqual(asked(a_drawing([], [(frame, [("ring", point(x + 1, y), middle)])]), middle),
                             ("end", 0, 0, 0))

    def test_too_many_rounds(self):
        wide = (point(1, 0), 0, 1, (1, 1)), [("stretch", point(0, 1), point(1000, 1))]
        deep = HALF, [dot(2 ** 1000, 0)]
        with self.assertRaises(TooMuch):
            asked(a_drawing([], [wide]), point(2000, 0))
        with self.assertRaises(TooMuch):
            asked(a_drawing([], [deep]), point(1, 0))
        # Refused also where the point is drawn.
        with self.assertRaises(TooMuch):
            asked(a_drawing([], [wide]), point(2000, 1))
        with self.assertRaises(TooMuch):
            asked(a_drawing([dot(7, 7)], [(RIGHT, [dot(0, 0)]), wide]), point(2001, 0))
        # An end behind the one that draws the point isn't looked at, and none where still draws it.
        self.assertEqual(asked(a_drawing([], [(RIGHT, [dot(0, 0)]), wide]), point(2000, 0)), ("end", 0, 0, 1000))
        self.assertEqual(asked(a_drawing([dot(1, 0)], [deep]), point(1, 0)), ("still", 0))
        self.assertEqual(asked(a_drawing([], [wide]), point(20, 0)), ("out", [(0, 21)]))

    def test_round_by_round(self):
        chance = source("asked")
        words = []
        for _ in range(250):
            drawing = some_drawing(chance)
            end = chance.choice(drawing[1])
            piece = led_piece(power(end[0], chance.randint(0, 6)), chance.choice(end[3])[0])
            p = some_point_of(chance, piece) if chance.random() < .8 else some_point(chance)
            told = asked(drawing, p)
            self.assertEqual(told, slow_asked(drawing, p))
            words.append(told[0])
            self.assertIs(type(told), tuple)
            if told[0] == "out":
                self.assertIs(type(told[1]), list)
            else:
                self.assertTrue(all(is_whole(number) for number in told[1:]))
        self.assertGreater(words.count("end"), 100)
        self.assertGreater(words.count("out"), 20)

    def test_many_figures(self):
        chance = source("long asked")
        for size in ((1, 1), (LONG // 2, LONG), (3, 4)):
            frame = (long_point(chance), chance.randint(0, 3), 1, size)
            c, p = long_point(chance), long_point(chance)
            pieces = [("ring", c, p), ("stretch", *sorted((c, p), key=exact_point)), ("dot", c)]
            drawing = a_drawing([], [(frame, pieces)])
            for n in (0, 1, 5):
                for piece in pieces:
                    q = some_point_of(chance, led_piece(power(frame, n), piece))
                    told = asked(drawing, q)
                    self.assertEqual(told[0], "end")
                    self.assertEqual(told, slow_asked(drawing, q))
            self.assertEqual(asked(drawing, long_point(chance))[0], "out")

    def test_nothing_kept(self):
        drawing = a_drawing([dot(9, 9)], [(RIGHT, [dot(0, 0)]), (HALF, [("ring", MIDDLE, point(3, 4))])])
        same = copy.deepcopy(drawing)
        told = asked(drawing, point(1, 1))
        self.assertEqual(drawing, same)
        spans = list(told[1])
        told[1].clear()
        self.assertEqual(asked(drawing, point(1, 1)), ("out", spans))


def some_drawing(chance):
    ends = []
    for _ in range(chance.randint(1, 3)):
        frame = some_frame(chance)[:3] + (chance.choice([(1, 1), (1, 1), (1, 2), (3, 4), (2, 3)]),)
        ends.append((frame, [some_piece(chance) for _ in range(chance.randint(1, 4))]))
    return a_drawing([some_piece(chance) for _ in range(chance.randint(0, 2))], ends)


class EndHas(unittest.TestCase):
    def test_by_hand(self):
        end = an_end(RIGHT, [("stretch", point(0, 0), point(3, 0)), dot(1, 0), dot(0, 5)])
        self.assertEqual(end_has(end, 0, point(1, 0)), 0)
        self.assertEqual(end_has(end, 0, point(0, 5)), 2)
        self.assertEqual(end_has(end, 4, point(8, 5)), 2)
        self.assertEqual(end_has(end, 4, point(8, 0)), 0)
        self.assertIsNone(end_has(end, 1, point(0, 5)))
        self.assertIsNone(end_has(end, 4, point(7, 0)))

    def test_rounds_of_many_figures(self):
        for frame in (RIGHT, GLIDE, QUARTER):
            end = an_end(frame, [dot(4, 1), dot(3, 1)])
            for n in (10 ** 59, LONG):
                p = led_piece(power(frame, n), dot(3, 1))[1]
                self.assertEqual(end_has(end, n, p), 1)
                self.assertIsNone(end_has(end, n - 1, p))

    def test_led_round_by_round(self):
        chance = source("end has")
        for _ in range(120):
            end = chance.choice(some_drawing(chance)[1])
            n = chance.randint(0, 12)
            p = some_point_of(chance, led_piece(power(end[0], n), chance.choice(end[3])[0]))
            for k in range(max(0, n - 2), n + 1):
                self.assertEqual(end_has(end, k, p), slow_has(end, k, p))

    def test_the_middle(self):
        frame = about(point(2, 1), 1, 1, Fraction(1, 3))
        end = an_end(frame, [dot(0, 0), ("stretch", point(0, 0), point(4, 2))])
        self.assertEqual(kind(frame)[1], point(2, 1))
        for n in range(13):
            self.assertEqual(end_has(end, n, point(2, 1)), 1)


class Interface(unittest.TestCase):
    def test_arguments(self):
        self.assertEqual(names_of(asked), ["drawing", "point"])
        self.assertEqual(names_of(end_has), ["end", "n", "point"])


if __name__ == "__main__":
    unittest.main()
