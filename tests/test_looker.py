"""The looker: papers of points [41] and of two pictures [42]."""

import copy
import unittest
from fractions import Fraction

from arcmill.alike import alike
from arcmill.asked import asked
from arcmill.frames import led, led_piece
from arcmill.kin import evened
from arcmill.looker import alike_shown, point_shown
from arcmill.movers import power
from tests.helpers import (LONG, a_drawing, about, exact_point, is_whole, long_point, names_of, point, some_point_of,
                           source)
from tests.pictures import alike_shows, point_shows, some_kin, told_otherwise

MIDDLE = point(0, 0)
OTHER_FORMS = (None, True, False, 0, 1, -1, "", "still", "out", (), [], ("still",), ("out",), ("end",), ["still", 0], ("still", 0, 0),
               ("still", "0"), ("still", None), ("still", True), ("still", (0,)), ("still", [0]), (0,), (("still", 0),), ("Still", 0),
               (True, 0), ("end", 0, 0), ("end", 0, 0, 0, 0), ("end", 0, 0, None), ("end", "0", 0, 0), ("end", 0, (0,), 0),
               ["end", 0, 0, 0], ("out", None), ("out", ()), ("out", 0), ("out", "[]"), ("out", [], []), ("out", [0]), ("out", [None]),
               ("out", [(0,)]), ("out", [(0, 1, 2)]), ("out", [[0, 1]]), ("out", ((0, 1),)), ("out", ["01"]), ("none", 0), ("none", []), ("", []), (0, []),
               ("end", [[[[[[[[[]]]]]]]]], ((((((((),),),),),),),), 0))


def dot(x, y=0):
    return ("dot", point(x, y))


def stretch(p, q):
    return ("stretch", *sorted((point(*p), point(*q)), key=exact_point))


def level(low, high, y=0):
    return stretch((low, y), (high, y))


def on(x, y=0):
    return (point(x, y), 0, 1, (1, 1))


def smaller(top=1, bottom=2, turns=0, hand=1, middle=MIDDLE):
    return about(middle, turns, hand, Fraction(top, bottom))


QUARTER = (MIDDLE, 1, 1, (1, 1))


class Points(unittest.TestCase):
    def shown(self, drawing, p, *papers):
        for paper in papers:
            self.assertIs(point_shown(drawing, p, paper), True, paper)

    def not_shown(self, drawing, p, *papers):
        for paper in papers:
            self.assertIs(point_shown(drawing, p, paper), False, paper)

    def test_still(self):
        drawing = a_drawing([dot(5), level(0, 2), level(1, 3), ("ring", MIDDLE, point(3, 4))])
        self.shown(drawing, point(2, 0), ("still", 1), ("still", 2))
        self.not_shown(drawing, point(2, 0), ("still", 0), ("still", 3), ("still", 4), ("still", -1), ("still", -3), ("still", -2),
                       ("still", True), ("still", "1"), ("still", 1, 0), ("out", []), ("still", LONG))
        self.shown(drawing, point(5, 0), ("still", 0), ("still", 3))
        self.not_shown(drawing, point(5, 0), ("still", False))
        self.shown(drawing, point(9, 9), ("out", []))
        self.not_shown(drawing, point(9, 9), ("out", [(0, 1)]), ("still", 0))
        self.not_shown(a_drawing([]), point(0, 0), ("still", 0), ("still", -1), ("end", 0, 0, 0))
        self.shown(a_drawing([]), point(0, 0), ("out", []))

    def test_end(self):
        drawing = a_drawing([], [(on(2), [dot(1), level(0, 1)]), (smaller(), [level(4, 8)]), (QUARTER, [dot(3, 3)])])
        self.shown(drawing, point(7, 0), ("end", 0, 0, 3), ("end", 0, 1, 3), ("end", 1, 0, 0))
        self.not_shown(drawing, point(7, 0), ("end", 0, 0, 2), ("end", 0, 0, 4), ("end", 0, 2, 3), ("end", 1, 0, 3), ("end", 1, 0, 1),
                       ("end", 0, -1, 3), ("end", -3, 0, 3), ("end", 3, 0, 0), ("end", -2, 0, 0), ("end", 0, 0, -3), ("end", 0, 0, True),
                       ("end", False, 0, 3), ("end", 0, True, 3), ("end", 0, 0, "3"), ("end", 0, 0), ("end", 0, 0, 3, 3), ("still", 0))
        self.shown(drawing, point(-3, 3), ("end", 2, 0, 1), ("end", 2, 0, 5), ("end", 2, 0, 1997))
        self.not_shown(drawing, point(-3, 3), ("end", 2, 0, 0), ("end", 2, 0, 2), ("end", 2, 0, 2001), ("end", 2, 0, -3))
        self.not_shown(drawing, point(1, 0), ("end", 0, False, 0), ("end", 0, 0, False), ("end", 0, 0, 1))
        self.shown(drawing, point(1, 0), ("end", 0, 0, 0), ("end", 0, 1, 0), ("end", 1, 0, 2), ("end", 1, 0, 3))

    def test_late_rounds(self):
        drawing = a_drawing([], [(on(1), [dot(0)]), (smaller(), [level(0, 1)]), (smaller(3, 4, 1), [dot(16)]), (QUARTER, [dot(0, 1)])])
        self.shown(drawing, point(LONG, 0), ("end", 0, 0, LONG))
        self.not_shown(drawing, point(LONG, 0), ("end", 0, 0, LONG - 1))
        self.shown(drawing, point(Fraction(1, 2 ** 2000), 0), ("end", 1, 0, 2000), ("end", 1, 0, 1999))
        self.not_shown(drawing, point(Fraction(1, 2 ** 2001), 0), ("end", 1, 0, 2001), ("end", 1, 0, 2002))
        self.shown(drawing, MIDDLE, ("end", 1, 0, 2000), ("end", 1, 0, 0))
        self.not_shown(drawing, MIDDLE, ("end", 1, 0, 2001), ("end", 1, 0, -1))
        far = led(power(smaller(3, 4, 1), 1999), point(16, 0))
        self.shown(drawing, far, ("end", 2, 0, 1999))
        self.not_shown(drawing, far, ("end", 2, 0, 1998), ("end", 2, 0, 2000), ("end", 2, 0, 1995))
        self.shown(drawing, point(0, 1), ("end", 3, 0, 2000))
        self.not_shown(drawing, point(0, 1), ("end", 3, 0, 2004), ("end", 3, 0, 1999))

    def test_out_round(self):
        drawing = a_drawing([], [(QUARTER, [dot(3, 3)]), ((point(2, 0), 2, 1, (1, 1)), [dot(0, 1)]), (on(0), [dot(1, 1)])])
        p = point(5, 5)
        self.shown(drawing, p, ("out", [(0, 4), (0, 2), (0, 1)]), ("out", [(0, 7), (0, 3), (0, 2000)]))
        self.not_shown(drawing, p, ("out", [(0, 3), (0, 2), (0, 1)]), ("out", [(0, 4), (0, 1), (0, 1)]), ("out", [(0, 4), (0, 2), (0, 0)]),
                       ("out", [(1, 5), (0, 2), (0, 1)]), ("out", [(0, 4), (2, 4), (0, 1)]), ("out", [(0, 2001), (0, 2), (0, 1)]),
                       ("out", [(0, 4), (0, 2)]), ("out", [(0, 4), (0, 2), (0, 1), (0, 1)]), ("out", [(0, 4), (0, 2), (0, True)]),
                       ("out", [(0, 4), (0, 2), (False, 1)]), ("out", [(0, 4), (0, 2), [0, 1]]), ("out", [(0, 4), (0, 2), (0, 1, 1)]),
                       ("out", ((0, 4), (0, 2), (0, 1))))
        # A point that is drawn.
        for drawn_point in (point(-3, -3), point(2, -1), point(1, 1)):
            self.not_shown(drawing, drawn_point, ("out", [(0, 4), (0, 2), (0, 1)]), ("out", [(0, 2000)] * 3))

    def test_out_on(self):
        drawing = a_drawing([dot(3, 4)], [(on(2), [level(0, 1), dot(Fraction(3, 2), 3)])])
        p = point(Fraction(21, 2), 1)
        self.assertEqual(asked(drawing, p), ("out", [(5, 6)]))
        self.shown(drawing, p, ("out", [(5, 6)]), ("out", [(0, 6)]), ("out", [(4, 6)]), ("out", [(5, 7)]), ("out", [(1, 2001)]),
                   ("out", [(5, 2005)]), ("out", [(0, 2000)]))
        self.not_shown(drawing, p, ("out", [(6, 7)]), ("out", [(5, 5)]), ("out", [(0, 5)]), ("out", [(6, 6)]), ("out", [(-1, 6)]),
                       ("out", [(5, 2006)]), ("out", [(7, 6)]), ("out", [(6, 5)]), ("out", [(0, 2001)]))
        # Too low for all rounds: none at all need be told.
        low = point(-1, 0)
        self.shown(drawing, low, ("out", [(0, 0)]), ("out", [(0, 1)]))
        self.not_shown(drawing, low, ("out", [(1, 1)]), ("out", [(-1, 0)]))
        high = point(10 ** 30, 7)
        first, behind = asked(drawing, high)[1][0]
        self.shown(drawing, high, ("out", [(first, behind)]), ("out", [(first - 1000, first + 1000)]))
        self.not_shown(drawing, high, ("out", [(first + 1, behind + 1)]), ("out", [(0, behind)]), ("out", [(first, behind - 1)]))
        # Drawn: by still, or by the end.
        self.not_shown(drawing, point(3, 4), ("out", asked(a_drawing([], [(on(2), [level(0, 1)])]), point(3, 4))[1]))
        self.not_shown(drawing, point(Fraction(21, 2), 0), ("out", [(5, 6)]), ("out", [(0, 9)]), ("out", [(6, 7)]), ("out", [(0, 5)]))

    def test_out_on_by_arcs_and_mirrors(self):
        glide = (point(3, 0), 0, -1, (1, 1))
        drawing = a_drawing([], [(glide, [("ring", point(0, 1), point(1, 1)), dot(2, 5)])])
        for p in (point(6, 6), point(20, -5), point(0, -1), point(18, 1), point(18, -1), point(21, 1)):
            told = asked(drawing, p)
            self.assertEqual(told[0], "out")
            first, behind = told[1][0]
            self.shown(drawing, p, told, ("out", [(0, behind)]), ("out", [(first, behind + 9)]))
            self.not_shown(drawing, p, ("out", [(first, behind - 1)]))
            self.not_shown(drawing, p, ("out", [(first + 1, behind + 1)]))

    def test_out_smaller(self):
        drawing = a_drawing([], [(smaller(), [level(4, 8)])])
        p = point(1, 1)
        self.assertEqual(asked(drawing, p), ("out", [(0, 3)]))
        self.shown(drawing, p, ("out", [(0, 3)]), ("out", [(0, 4)]), ("out", [(0, 2000)]))
        self.not_shown(drawing, p, ("out", [(0, 2)]), ("out", [(1, 3)]), ("out", [(0, 2001)]), ("out", [(0, 0)]), ("out", [(0, -1)]))
        self.shown(drawing, MIDDLE, ("out", [(0, 1)]), ("out", [(0, 2000)]))
        self.not_shown(drawing, MIDDLE, ("out", [(0, 0)]), ("out", [(1, 1)]), ("out", [(1, 2)]), ("out", [(0, 2001)]))
        self.shown(drawing, point(9, 0), ("out", [(0, 0)]), ("out", [(0, 5)]))
        # Just as far as the reach: that round could have it.
        self.not_shown(drawing, point(0, 8), ("out", [(0, 0)]))
        self.shown(drawing, point(0, 8), ("out", [(0, 1)]))
        self.not_shown(drawing, point(3, 0), ("out", [(0, 3)]), ("out", [(0, 1)]), ("out", [(0, 2000)]))
        through = a_drawing([], [(smaller(3, 4, 3, -1, point(1, 2)), [level(0, 2, 2)])])
        self.not_shown(through, point(1, 2), ("out", [(0, 1)]), ("out", [(0, 2000)]))
        self.shown(through, point(1, 2), ("end", 0, 0, 0), ("end", 0, 0, 17))
        # What asked refuses the looker may let by.
        near = point(0, Fraction(3 ** 1500, 4 ** 1500))
        slow = a_drawing([], [(smaller(3, 4), [dot(1)])])
        self.shown(slow, near, ("out", [(0, 1501)]), ("out", [(0, 2000)]))
        self.not_shown(slow, near, ("out", [(0, 1500)]))

    def test_other_forms(self):
        drawing = a_drawing([dot(5)], [(on(2), [dot(1)])])
        for p in (point(5, 0), point(7, 0), point(7, 7)):
            self.not_shown(drawing, p, *OTHER_FORMS)
        self.not_shown(a_drawing([]), point(5, 0), *OTHER_FORMS)

    def test_many_figures(self):
        chance = source("long looker")
        w, c, p = long_point(chance), long_point(chance), long_point(chance)
        for frame in ((w, 0, 1, (1, 1)), about(c, 1, 1, Fraction(3, 4)), about(c, 2, 1, Fraction(LONG // 2, LONG)), about(c, 3, 1, 1)):
            drawing = a_drawing([], [(frame, [("dot", p), ("ring", p, c)])])
            for n in (0, 1, 2, 9):
                self.shown(drawing, led(power(frame, n), p), ("end", 0, 0, n))
                self.not_shown(drawing, led(power(frame, n), p), ("end", 0, 0, n + 1), ("end", 0, 1, n))
            told = asked(drawing, long_point(chance))
            self.assertEqual(told[0], "out")
            q = point(LONG, 3)
            self.shown(drawing, q, asked(drawing, q))

    def test_by_the_words(self):
        chance = source("papers of points")
        met = {True: 0, False: 0}
        for _ in range(250):
            drawing = some_kin(chance, chance.choice(("none", "on", "smaller")))
            pieces = [each[0] for each in drawing[0]] + [led_piece(power(end[0], chance.randint(0, 5)), each[0])
                                                        for end in drawing[1] for each in end[3]]
            p = some_point_of(chance, chance.choice(pieces)) if pieces and chance.random() < .7 else point(chance.randint(-4, 4), chance.randint(-4, 4))
            told = asked(drawing, p)
            self.shown(drawing, p, told)
            for _ in range(12):
                paper = self.changed(chance, told, drawing)
                wanted = self.by_the_words(drawing, p, paper)
                met[wanted] += 1
                self.assertIs(point_shown(drawing, p, paper), wanted, (drawing, p, paper))
        self.assertTrue(all(many > 300 for many in met.values()), met)

    def changed(self, chance, told, drawing):
        word = chance.choice((told[0], told[0], told[0], "still", "end", "out"))
        if word == "still":
            return ("still", chance.randint(-1, len(drawing[0])))
        if word == "end":
            start = told[1:] if told[0] == "end" else (0, 0, 0)
            return ("end", *[number + chance.choice((0, 0, 0, 1, -1, 2, 4)) for number in start])
        spans = told[1] if told[0] == "out" else [(0, chance.randint(0, 6)) for _ in drawing[1]]
        spans = [(max(0, first + chance.choice((0, 0, 0, 1, -1, -first))), behind + chance.choice((0, 0, 0, 1, 4, -1))) for first, behind in spans]
        return ("out", spans[:len(spans) - chance.choice((0, 0, 0, 0, 0, 0, 1))])

    def by_the_words(self, drawing, p, paper):
        if paper[0] == "still" and not 0 <= paper[1] < len(drawing[0]):
            return False
        if paper[0] == "end":
            word, e, k, n = paper
            if n < 0 or not 0 <= e < len(drawing[1]) or not 0 <= k < len(drawing[1][e][3]):
                return False
        return point_shows(drawing, p, paper)


class Pictures(unittest.TestCase):
    def setUp(self):
        one = a_drawing([level(0, 3)], [(on(2), [level(0, 2), dot(1, 5)])])
        other = a_drawing([level(0, 1), level(1, 3), dot(1, 5)], [(on(2), [level(1, 2), level(0, 1), dot(3, 5)])])
        self.even = evened(one, other)
        # Numbers of the first picture: 0 still; 1, 2 flow; of the other one 0, 1, 2 still; 3, 4, 5 flow.
        self.ones = [[(0, 0), (1, 0)], [[(4, 0), (3, 0)]], [[(2, 0)], [(5, 0)]]]
        self.others = [[(0, 0)], [(0, 0)], [(2, 0)], [[(1, 0)]], [[(1, 0)]], [[(2, 1)]]]

    def lets(self, ones=None, others=None):
        told = alike_shown(self.even, (self.ones if ones is None else ones, self.others if others is None else others))
        self.assertIn(told, (True, False))
        self.assertIs(type(told), bool)
        return told

    def with_one(self, number, paper):
        return self.lets(self.ones[:number] + [paper] + self.ones[number + 1:])

    def test_right(self):
        self.assertTrue(self.lets())
        for paper in ([(4, 0), (1, 0)], [(0, 0), (3, 0), (1, 0)], [(0, 0), (3, 0), (4, 1)], [(4, 0), (3, 0), (4, 1)], [(0, 0), (4, 0), (1, 0)]):
            self.assertTrue(self.with_one(0, paper), paper)
        for paper in ([[(0, 0), (1, 0)], [(4, 1), (3, 1)]], [[(4, 0), (3, 0)], [(4, 1), (3, 1)]], [[(0, 0), (1, 0)], [(1, 0), (4, 1), (3, 1)], [(4, 2), (3, 2)]]):
            self.assertTrue(self.with_one(1, paper), paper)
        self.assertTrue(self.with_one(2, [[(2, 0)], [(5, 0)], [(5, 1)], [(5, 2)]]))

    def test_wrong_chains(self):
        for paper in ([(0, 0)], [(1, 0)], [(1, 0), (0, 0)], [(0, 0), (1, 0), (2, 0)], [(0, 0), (0, 0), (1, 0)], [(0, 0), (1, 0), (1, 0)],
                      [(2, 0)], [], [(4, 0), (3, 0)], [(4, 0), (3, 1)], [(4, 0), (4, 1)], [(0, 0), (1, 1)], [(0, 1), (1, 0)],
                      [(0, 0), (6, 0)], [(0, 0), (-5, 0)], [(0, 0), (3, 0), (4, 2)], [(0, 0), (3, -1), (1, 0)], [(0, 0), (1, 0, 0)], [(0, 0), (1,)]):
            self.assertFalse(self.with_one(0, paper), paper)

    def test_wrong_flows(self):
        for paper in ([], [[]], [[(0, 0), (1, 0)]], [[(0, 0), (3, 0)]], [[(4, 0), (1, 0)]], [[(4, 1), (3, 1)]], [[(4, 0), (3, 0)], [(4, 0), (3, 0)]],
                      [[(4, 0), (3, 0)], []], [[(4, 0), (3, 0)], [(4, 1)]], [[(4, 0), (3, 0)], [(1, 0), (4, 1), (3, 1)]],
                      [(4, 0), (3, 0)], [[(4, 0), (4, 0), (3, 0)]], [[(3, 0), (4, 0)]]):
            self.assertFalse(self.with_one(1, paper), paper)
        for paper in ([[(2, 0)]], [[(5, 0)]], [[(2, 0)], [(5, 1)]], [[(2, 0)], [(2, 1)]], [[(2, 0)], [(5, 0), (5, 0)]], [[(2, 0)], []], []):
            self.assertFalse(self.with_one(2, paper), paper)

    def test_a_paper_for_each_piece(self):
        self.assertFalse(self.lets(self.ones[:-1]))
        self.assertFalse(self.lets(self.ones + [[(0, 0)]]))
        self.assertFalse(self.lets(self.ones + [[[(3, 0)]]]))
        self.assertFalse(self.lets([]))
        self.assertFalse(self.lets(None, self.others[:-1]))
        self.assertFalse(self.lets(None, self.others[1:]))
        self.assertFalse(self.lets(None, []))
        self.assertFalse(self.lets(self.others, self.ones))
        self.assertFalse(alike_shown((self.even[0], self.even[2], self.even[1]), (self.ones, self.others)))
        self.assertTrue(alike_shown((self.even[0], self.even[2], self.even[1]), (self.others, self.ones)))

    def test_other_forms(self):
        forms = OTHER_FORMS + (5, "ab", [[]], [[[]]], [()], [(0,)], [None], [[None]], [[(0, 0)]], [[[[(0, 0)]]]], ([], []))
        for thing in forms:
            self.assertIs(alike_shown(self.even, thing), False, thing)
            self.assertFalse(self.lets(thing if thing is not None else 0))
            self.assertFalse(self.lets(None, thing if thing is not None else 0))
            for number in range(3):
                if not (number == 0 and thing == [(0,)]):
                    self.assertFalse(self.with_one(number, thing), (number, thing))
            self.assertFalse(self.with_one(0, [(0, 0), thing]), thing)
            self.assertFalse(self.with_one(0, [(0, 0), (1, thing)]) and thing != 0, thing)
            self.assertFalse(self.with_one(0, [(0, 0), (thing, 0)]) and thing != 1, thing)
            self.assertFalse(self.with_one(1, [[(4, 0), (3, 0)], thing]), thing)
        for thing in (True, False):
            self.assertFalse(self.with_one(0, [(0, 0), (True, 0)]))
            self.assertFalse(self.with_one(0, [(0, False), (1, 0)]))
            self.assertFalse(self.with_one(0, [(False, 0), (1, 0)]))
        self.assertFalse(alike_shown(self.even, [self.ones, self.others]))
        self.assertFalse(alike_shown(self.even, (self.ones, self.others, [])))
        self.assertFalse(alike_shown(self.even, (self.ones,)))
        self.assertFalse(self.lets(tuple(self.ones)))
        self.assertFalse(self.with_one(0, tuple(self.ones[0])))
        self.assertFalse(self.with_one(1, tuple(self.ones[1])))
        self.assertFalse(self.with_one(1, [tuple(self.ones[1][0])]))
        self.assertFalse(self.with_one(0, [[0, 0], [1, 0]]))


class Chains(unittest.TestCase):
    """Chains of arcs, of still pieces alone."""

    def lets(self, goal, pieces, links):
        # The other way round each piece is shown by the goal, or by itself in a second list of all.
        even = (("none",), ([goal] + pieces, []), (pieces + [goal], []))
        many = len(pieces)
        ones = [[(k, 0) for k in links]] + [[(k, 0)] for k in range(many)]
        others = [[(k + 1, 0)] for k in range(many)] + [[(0, 0)]]
        return alike_shown(even, (ones, others))

    def setUp(self):
        self.east, self.north, self.west, self.south = point(5, 0), point(0, 5), point(-5, 0), point(0, -5)

    def arc(self, p, q):
        return ("arc", MIDDLE, p, q)

    def test_arcs(self):
        half, other = self.arc(self.east, self.west), self.arc(self.north, self.south)
        goal = self.arc(point(3, 4), point(-4, -3))
        self.assertTrue(self.lets(goal, [half, other], [0, 1]))
        self.assertFalse(self.lets(goal, [half, other], [1, 0]))
        self.assertFalse(self.lets(goal, [half, other], [0]))
        self.assertFalse(self.lets(goal, [half, other], [0, 1, 1]))
        self.assertTrue(self.lets(goal, [half, other, goal], [2]))
        self.assertFalse(self.lets(goal, [half, other, goal], [2, 1]))
        # One must not stand at an arc's last point; and its last point may be just met.
        self.assertTrue(self.lets(self.arc(self.west, self.south), [half, other], [1]))
        self.assertFalse(self.lets(self.arc(self.west, self.south), [half, other], [0, 1]))
        self.assertTrue(self.lets(self.arc(self.north, self.west), [half, other], [0]))
        self.assertTrue(self.lets(self.arc(self.north, self.west), [half, other], [1]))
        self.assertFalse(self.lets(self.arc(self.north, self.west), [half, other], [0, 1]))
        # On another circle, no arc, or a ring among arcs.
        self.assertFalse(self.lets(goal, [("arc", MIDDLE, point(6, 0), point(-6, 0)), other], [0, 1]))
        self.assertFalse(self.lets(goal, [("arc", point(0, 1), point(5, 1), point(-5, 1)), other], [0, 1]))
        self.assertFalse(self.lets(goal, [("ring", MIDDLE, self.east), other], [0, 1]))
        self.assertFalse(self.lets(goal, [half, ("ring", MIDDLE, self.east)], [0, 1]))
        self.assertTrue(self.lets(goal, [("ring", MIDDLE, self.east)], [0]))
        self.assertFalse(self.lets(goal, [("ring", MIDDLE, self.east)], [0, 0]))
        self.assertFalse(self.lets(goal, [("ring", MIDDLE, point(6, 0))], [0]))
        self.assertFalse(self.lets(goal, [level(-5, 5)], [0]))
        self.assertFalse(self.lets(goal, [dot(5), half, other], [0, 1, 2]))

    def test_rings(self):
        three = [self.arc(self.east, self.west), self.arc(self.north, self.south), self.arc(self.west, self.east)]
        ring = ("ring", MIDDLE, point(3, 4))
        self.assertTrue(self.lets(ring, three, [0, 2, 0]))
        self.assertTrue(self.lets(ring, three, [0, 1, 2, 0]))
        self.assertFalse(self.lets(ring, three, [0, 2]))
        self.assertFalse(self.lets(ring, three, [0, 2, 0, 2]))
        self.assertFalse(self.lets(ring, three, [0]))
        self.assertFalse(self.lets(ring, three, [2, 0]))
        self.assertTrue(self.lets(("ring", MIDDLE, self.east), three, [0, 2]))
        self.assertFalse(self.lets(("ring", MIDDLE, self.east), three, [0, 2, 0]))
        most = self.arc(self.east, point(4, -3))
        self.assertFalse(self.lets(ring, [most], [0, 0]))
        self.assertTrue(self.lets(ring, [most, self.arc(point(4, -3), self.north)], [0, 1]))
        self.assertTrue(self.lets(ring, [("ring", MIDDLE, self.west)], [0]))

    def test_dots_and_stretches(self):
        self.assertTrue(self.lets(dot(1), [level(0, 2), dot(1)], [0]))
        self.assertTrue(self.lets(dot(1), [level(0, 2), dot(1)], [1]))
        self.assertFalse(self.lets(dot(1), [level(0, 2), dot(1)], [0, 1]))
        self.assertFalse(self.lets(dot(1), [level(0, 2), dot(1)], []))
        self.assertFalse(self.lets(dot(3), [level(0, 2)], [0]))
        self.assertTrue(self.lets(level(0, 4), [level(-1, 3), level(1, 9)], [0, 1]))
        self.assertFalse(self.lets(level(0, 4), [level(-1, 3), level(1, 9)], [1, 0]))
        self.assertFalse(self.lets(level(0, 4), [level(-1, 2), level(3, 9)], [0, 1]))
        self.assertFalse(self.lets(level(0, 4), [level(-1, 2), stretch((2, 0), (4, 1)), level(1, 4)], [0, 1, 2]))
        self.assertFalse(self.lets(level(0, 4), [level(-1, 2), dot(2), level(2, 4)], [0, 1, 2]))
        # More than is needed is let, where each leads to the next one; but none twice.
        self.assertTrue(self.lets(level(0, 4), [level(-1, 5), level(4, 9)], [0, 1]))
        self.assertFalse(self.lets(level(0, 3), [level(-1, 5), level(4, 9)], [0, 1]))
        self.assertTrue(self.lets(level(0, 5), [level(-1, 5), level(4, 9)], [0, 1]))
        self.assertFalse(self.lets(level(0, 5), [level(-1, 5), level(4, 9)], [0, 0]))


class AnyEvened(unittest.TestCase):
    def test_rounds(self):
        for sort, most in ((("on", point(1, 0)), None), (("smaller", MIDDLE, (1, 2)), 2000)):
            for n in (1, 2000, 2001, 5000):
                place = n if most is None else Fraction(1, 2 ** n)
                start = 0 if most is None else 1
                one, other = ([dot(place)], [dot(start)]), ([], [dot(start)])
                papers = ([[(0, n)], [[(0, 0)]]], [[[(1, 0)]]])
                self.assertIs(alike_shown((sort, one, other), papers), most is None or n <= most, (sort, n))
                self.assertIs(alike_shown((sort, one, other), ([[(0, n - 1)], [[(0, 0)]]], [[[(1, 0)]]])), False)

    def test_flow_without_a_map(self):
        # Of no drawings: flow that goes nowhere is the same in each round, and no round is too late.
        even = (("none",), ([dot(1)], [level(0, 2)]), ([], [level(0, 1), level(1, 2)]))
        self.assertTrue(alike_shown(even, ([[(0, 5000)], [[(0, 0), (1, 3)]]], [[[(1, 0)]], [[(1, 2001)]]])))
        self.assertFalse(alike_shown(even, ([[(0, 5000)], [[(0, 0), (1, 3)]]], [[[(0, 0)]], [[(1, 2001)]]])))
        self.assertFalse(alike_shown(even, ([[(0, -1)], [[(0, 0), (1, 3)]]], [[[(1, 0)]], [[(1, 2001)]]])))

    def test_a_still_one_has_one_round(self):
        even = (("on", point(1, 0)), ([dot(1)], [dot(0)]), ([dot(0)], [dot(0)]))
        right = [[(1, 0)], [[(1, 0)]]]
        self.assertTrue(alike_shown(even, ([[(1, 1)], [[(1, 0)]]], right)))
        self.assertTrue(alike_shown(even, ([[(1, 1)], [[(0, 0)], [(1, 1)]]], right)))
        self.assertFalse(alike_shown(even, ([[(0, 1)], [[(1, 0)]]], right)))
        self.assertFalse(alike_shown(even, ([[(1, 1)], [[(0, 0)]]], right)))
        self.assertFalse(alike_shown(even, ([[(1, 1)], [[(1, 0)], [(0, 1)]]], right)))

    def test_pieces_through_the_middle(self):
        # Of no drawings, for evened would tell these otherwise.
        sort = ("smaller", MIDDLE, (1, 2))
        even = (sort, ([], [level(0, 4)]), ([level(0, 4)], [dot(0), level(0, 2)]))
        self.assertTrue(alike_shown(even, ([[[(0, 0)], [(2, 0)]]], [[(0, 0)], [[(0, 0)]], [[(0, 1)]]])))
        self.assertFalse(alike_shown(even, ([[[(0, 0)]]], [[(0, 0)], [[(0, 0)]], [[(0, 1)]]])))
        self.assertFalse(alike_shown((sort, ([], [level(0, 4)]), ([], [level(0, 2)])), ([[[(0, 0)]]], [[[(0, 1)]]])))
        empty = (sort, ([], []), ([], []))
        self.assertTrue(alike_shown(empty, ([], [])))
        self.assertFalse(alike_shown(empty, ([[]], [])))

    def test_many_figures(self):
        chance = source("long even")
        w, c = long_point(chance), long_point(chance)
        p, q = sorted((long_point(chance), long_point(chance)), key=exact_point)
        pieces = [("dot", p), ("stretch", p, q), ("ring", q, p)]
        for frame in ((w, 0, 1, (1, 1)), about(c, 0, 1, Fraction(3, 4)), about(c, 2, 1, Fraction(LONG // 2, LONG))):
            one = a_drawing([], [(frame, pieces)])
            later = [led_piece(power(frame, n), piece) for n in (1, 2) for piece in pieces]
            word, even, papers = alike(one, a_drawing(pieces, [(power(frame, 2), later)]))
            self.assertTrue(alike_shown(even, papers))


class OfAlike(unittest.TestCase):
    def some_change(self, chance, papers):
        """Papers with one thing put otherwise, of the right form but for now and then."""
        whole = copy.deepcopy(papers)
        lists = [whole[chance.randint(0, 1)]]
        while lists[-1] and type(lists[-1][0]) is list and chance.random() < .9:
            lists.append(chance.choice(lists[-1]))
        last = lists[-1]
        word = chance.choice(("out", "in", "twice", "number", "round", "order"))
        if not last or word == "in":
            last.insert(chance.randint(0, len(last)), chance.choice(((0, 0), (1, 0), (chance.randint(0, 5), chance.randint(0, 3)), [])))
            return whole
        at = chance.randrange(len(last))
        if word == "out":
            last.pop(at)
        elif word == "twice":
            last.insert(at, copy.deepcopy(last[at]))
        elif word == "order":
            last.reverse()
        elif type(last[at]) is tuple:
            number, n = last[at]
            last[at] = (number + chance.choice((1, -1)), n) if word == "number" else (number, n + chance.choice((1, -1)))
        return whole

    def formed(self, even, papers):
        """Whether papers have the form of 39."""
        for picture, own in zip(even[1:], papers):
            if type(own) is not list or len(own) != len(picture[0]) + len(picture[1]):
                return False
            for number, paper in enumerate(own):
                chains = [paper] if number < len(picture[0]) else paper
                if type(chains) is not list:
                    return False
                for chain in chains:
                    if type(chain) is not list or not all(type(link) is tuple and len(link) == 2 and all(map(is_whole, link)) for link in chain):
                        return False
        return True

    def test_by_the_words(self):
        chance = source("papers of pictures")
        met = {True: 0, False: 0}
        for _ in range(120):
            one = some_kin(chance, chance.choice(("none", "on", "smaller")))
            other = told_otherwise(chance, one)
            word, even, papers = alike(one, other)
            same = copy.deepcopy((even, papers))
            self.assertIs(alike_shown(even, papers), True)
            self.assertEqual((even, papers), same)
            for _ in range(15):
                changed = self.some_change(chance, papers)
                wanted = self.formed(even, changed) and alike_shows(even, changed)
                met[wanted] += 1
                self.assertIs(alike_shown(even, changed), wanted, (even, changed))
            exchanged = papers[::-1]
            self.assertIs(alike_shown(even, exchanged), self.formed(even, exchanged) and alike_shows(even, exchanged))
        self.assertTrue(all(many > 100 for many in met.values()), met)

    def test_of_two_that_are_not_alike(self):
        chance = source("no papers")
        for _ in range(60):
            one = some_kin(chance, chance.choice(("none", "on", "smaller")))
            other = told_otherwise(chance, one)
            word, even, papers = alike(one, other)
            more = chance.choice((dot(77, 78), level(50, 60, 41), ("ring", point(90, 91), point(90, 92))))
            still = (even[1][0] + [more], even[1][1])
            for paper in ([(0, 0)], [(len(even[2][0]), 0)], []):
                papers_more = (papers[0][:len(even[1][0])] + [paper] + papers[0][len(even[1][0]):], papers[1])
                self.assertFalse(alike_shown((even[0], still, even[2]), papers_more))

    def test_arguments(self):
        self.assertEqual(names_of(point_shown), ["drawing", "point", "paper"])
        self.assertEqual(names_of(alike_shown), ["even", "papers"])


if __name__ == "__main__":
    unittest.main()
