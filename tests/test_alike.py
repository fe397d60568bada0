"""Two pictures held against each other [39], [40]."""

import copy
import unittest
from fractions import Fraction

from arcmill.alike import alike
from arcmill.arcs import at_share
from arcmill.asked import asked
from arcmill.errors import NoKin, TooMuch
from arcmill.frames import led_piece
from arcmill.going import drawn
from arcmill.kin import evened
from arcmill.movers import power
from tests.helpers import (LONG, a_drawing, about, an_end, exact_point, fraction, is_point, long_point, names_of, point,
                           source)
from tests.pictures import alike_shows, point_shows, some_kin, some_kin_piece, told_otherwise

MIDDLE = point(0, 0)


def dot(x, y=0):
    return ("dot", point(x, y))


def stretch(p, q):
    return ("stretch", *sorted((point(*p), point(*q)), key=exact_point))


def level(low, high, y=0):
    return stretch((low, y), (high, y))


def on(x, y=0):
    return (point(x, y), 0, 1, (1, 1))


def smaller(top=1, bottom=2, turns=0, hand=1, middle=MIDDLE):
    return about(middle, turns, hand, Fraction(top, bottom))


def ring(c, p):
    return ("ring", point(*c), point(*p))


def rounds(frame, pieces, start, stop):
    return [led_piece(power(frame, n), piece) for n in range(start, stop) for piece in pieces]


class Look(unittest.TestCase):
    def same(self, one, other):
        """Told as alike, by papers that show it, either way."""
        for pair in ((one, other), (other, one)):
            told = alike(*pair)
            self.assertEqual(told[0], "alike", told[:4])
            word, even, papers = told
            self.assertEqual(even, evened(*pair))
            self.assertTrue(type(told) is tuple and type(papers) is tuple and len(papers) == 2)
            self.assertTrue(alike_shows(even, papers))

    def parted(self, one, other, which=None):
        """Told as unlike, by a point that shows it, either way; which drawing has it where only one can."""
        for pair in ((one, other), (other, one)):
            told = alike(*pair)
            self.assertEqual(told[0], "unlike")
            word, whose, p, within, without = told
            self.assertIn(whose, (0, 1))
            self.assertTrue(is_point(p))
            self.assertEqual(within, asked(pair[whose], p))
            self.assertEqual(without, asked(pair[1 - whose], p))
            self.assertIn(within[0], ("still", "end"))
            self.assertEqual(without[0], "out")
            self.assertTrue(point_shows(pair[whose], p, within) and point_shows(pair[1 - whose], p, without))
            if which is not None:
                self.assertIs(pair[whose], (one, other)[which])


class WithoutEnds(Look):
    def test_alike(self):
        self.same(a_drawing([]), a_drawing([]))
        self.same(a_drawing([level(0, 2)]), a_drawing([level(1, 2), level(0, 1), dot(1)]))
        self.same(a_drawing([dot(1), dot(1)]), a_drawing([dot(1)]))
        bows = [("arc", MIDDLE, point(5, 0), point(-3, 4)), ("arc", MIDDLE, point(-5, 0), point(3, 4)),
                ("arc", MIDDLE, point(0, 5), point(0, -5))]
        self.same(a_drawing([ring((0, 0), (3, 4))]), a_drawing(bows))
        self.same(a_drawing([ring((0, 0), (3, 4)), dot(0, 5)]), a_drawing([ring((0, 0), (5, 0))]))
        self.same(a_drawing([level(0, 4), stretch((1, -1), (1, 1)), dot(1)]), a_drawing([stretch((1, -1), (1, 1)), level(0, 4)]))

    def test_unlike(self):
        self.parted(a_drawing([dot(1)]), a_drawing([]), 0)
        self.parted(a_drawing([level(0, 2)]), a_drawing([level(0, 1)]), 0)
        self.parted(a_drawing([level(0, 3)]), a_drawing([level(0, 1), level(2, 3)]), 0)
        self.parted(a_drawing([level(0, 2)]), a_drawing([dot(0), dot(1), dot(2)]), 0)
        self.parted(a_drawing([dot(0)]), a_drawing([dot(0, 1)]))
        self.parted(a_drawing([ring((0, 0), (3, 4))]), a_drawing([("arc", MIDDLE, point(5, 0), point(4, -3))]), 0)
        self.parted(a_drawing([ring((0, 0), (3, 4))]), a_drawing([]), 0)
        self.parted(a_drawing([ring((0, 0), (3, 4))]), a_drawing([level(0, 5), dot(3, 4)]))
        self.parted(a_drawing([("arc", MIDDLE, point(5, 0), point(0, 5))]), a_drawing([("arc", MIDDLE, point(0, 5), point(5, 0))]))
        self.parted(a_drawing([stretch((0, 0), (0, 3))]), a_drawing([stretch((0, 1), (0, 3)), dot(0)]), 0)

    def test_the_first_points_that_come_to_mind_are_there(self):
        # Dots and crossing pieces of the other picture lie where one would look.
        crossed = [dot(Fraction(1, k)) for k in range(2, 40)] + [dot(1 - Fraction(1, k)) for k in range(2, 40)]
        self.parted(a_drawing([level(0, 1)] + crossed), a_drawing(crossed + [stretch((Fraction(1, 41), -1), (Fraction(1, 41), 1))]))
        bow = ("arc", MIDDLE, point(5, 0), point(0, 5))
        shares = [("dot", at_share(MIDDLE, point(5, 0), (1, k))) for k in range(2, 20)]
        self.parted(a_drawing([bow]), a_drawing(shares + [dot(5), dot(0, 5)]), 0)

    def test_round_ends(self):
        quarter = (MIDDLE, 1, 1, (1, 1))
        self.same(a_drawing([], [(quarter, [level(1, 3)])]),
                  a_drawing([level(1, 3), level(-3, -1), stretch((0, 1), (0, 3)), stretch((0, -3), (0, -1))]))
        self.same(a_drawing([], [(quarter, [level(1, 3)])]), a_drawing([level(-3, -1)], [((MIDDLE, 3, 1, (1, 1)), [level(1, 3)])]))
        self.parted(a_drawing([], [(quarter, [level(1, 3)])]), a_drawing([], [((MIDDLE, 2, 1, (1, 1)), [level(1, 3)])]), 0)


class On(Look):
    def test_told_otherwise(self):
        pieces = [dot(0, 1), level(0, 1, 2), stretch((0, 3), (1, 5)), ring((0, 9), (1, 9)),
                  ("arc", point(0, 20), point(5, 20), point(3, 24))]
        for frame in (on(2), on(3, 1), (point(3, 0), 0, -1, (1, 1))):
            one = a_drawing([dot(50, 50)], [(frame, pieces)])
            self.same(one, one)
            self.same(one, (one[0], [an_end(power(frame, 3), rounds(frame, pieces, 0, 3))]))
            self.same(one, a_drawing([dot(50, 50)] + rounds(frame, pieces, 0, 4), [(frame, rounds(frame, pieces, 4, 5))]))
            self.same(one, a_drawing([dot(50, 50)], [(frame, [piece]) for piece in pieces]))
            self.same(one, a_drawing([dot(50, 50)], [(frame, pieces + rounds(frame, pieces, 3, 5))]))

    def test_one_dot(self):
        one = a_drawing([], [(on(2), [dot(0)])])
        self.parted(one, a_drawing([], [(on(2), [dot(2)])]), 0)
        self.parted(one, a_drawing([dot(-2)], [(on(2), [dot(0)])]), 1)
        self.parted(one, a_drawing([], [(on(4), [dot(0)])]), 0)
        self.parted(one, a_drawing([], [(on(2), [dot(0), dot(1)])]), 1)
        self.parted(one, a_drawing([]), 0)

    def test_a_late_round(self):
        one = a_drawing([], [(on(1), [dot(0)])])
        dots = [dot(k) for k in range(299)]
        self.same(one, a_drawing(dots, [(on(1), [dot(299)])]))
        self.parted(one, a_drawing(dots[:-1], [(on(1), [dot(299)])]), 0)
        self.parted(one, a_drawing(dots[:150] + dots[151:], [(on(1), [dot(299)])]), 0)
        told = alike(one, a_drawing(dots[:-1], [(on(1), [dot(299)])]))
        self.assertEqual(told, ("unlike", 0, point(298, 0), ("end", 0, 0, 298), ("out", [(0, 0)])))
        self.same(a_drawing([level(0, 280)], [(on(1), [dot(0)])]), a_drawing([level(0, 280)], [(on(1), [dot(281)])]))
        self.parted(a_drawing([level(0, 280)], [(on(1), [dot(0)])]), a_drawing([level(0, 280)], [(on(1), [dot(282)])]), 0)

    def test_along_the_way_of_the_map(self):
        whole = a_drawing([], [(on(2), [level(0, 2)])])
        self.same(whole, a_drawing([], [(on(2), [level(0, 7), level(1, 3)])]))
        self.same(whole, a_drawing([], [(on(2), [level(0, 1), level(1, 2)])]))
        self.same(whole, a_drawing([level(0, 1)], [(on(2), [level(1, 3)])]))
        self.same(whole, a_drawing([], [(on(6), [level(0, 3), level(2, 6)])]))
        self.same(whole, a_drawing([], [(on(4), [level(3, 5), level(1, 3)]), (on(4), [level(0, 1)])]))
        self.parted(whole, a_drawing([], [(on(2), [level(1, 3)])]), 0)
        self.parted(whole, a_drawing([], [(on(2), [level(0, Fraction(19, 10))])]), 0)
        self.parted(whole, a_drawing([], [(on(6), [level(0, 2), level(3, 6)])]), 0)
        self.parted(whole, a_drawing([level(-1, 0)], [(on(2), [level(0, 2)])]), 1)
        self.parted(whole, a_drawing([], [(on(2), [level(0, 2, 1)])]))
        # Stretches that only begin, end or cross there are no part of it.
        for aside in (stretch((0, 0), (2, 1)), stretch((0, 1), (2, 0)), stretch((0, -1), (2, 1)), level(0, 2, 1)):
            self.parted(whole, a_drawing([], [(on(2), [aside])]))
            self.parted(whole, a_drawing([aside], [(on(2), [level(2, 4)])]))
        # Also where the order of points is against the way, and where it goes up.
        for w in ((-2, 0), (0, 3), (-1, 2), (1, -1)):
            def part(low, high):
                return stretch((low * w[0], low * w[1]), (high * w[0], high * w[1]))
            whole = a_drawing([], [(on(*w), [part(0, 1)])])
            self.same(whole, a_drawing([part(0, Fraction(1, 2))], [(on(*w), [part(Fraction(1, 2), 4)])]))
            self.same(whole, a_drawing([part(0, 3)], [(on(*w), [part(3, Fraction(7, 2)), part(Fraction(7, 2), 5)])]))
            self.parted(whole, a_drawing([part(0, 3)], [(on(*w), [part(3, Fraction(7, 2)), part(Fraction(18, 5), 4)])]), 0)

    def test_a_chain_by_still_and_flow(self):
        # Round 2 of the long piece lies partly on a still one, later rounds on flow alone.
        one = a_drawing([], [(on(1, 1), [level(0, 3)])])
        cut = rounds(on(1, 1), [level(0, 3)], 0, 2) + [level(2, 4, 2), dot(9, 9)]
        self.same((one[0] + [(dot(9, 9), 0, ())], one[1]),
                  a_drawing(cut, [(on(1, 1), [level(4, 5, 2), level(3, 6, 3), level(2, 4, 2)])]))


    def test_long_chains(self):
        # Many slides lead along one stretch, some of them through still ones, some only in later rounds.
        slides = [level(Fraction(k, 12), Fraction(k + 1, 12)) for k in range(12)]
        ends = [(on(1), [level(0, 1)])]
        self.same(a_drawing([level(0, 280)], ends), a_drawing([], [(on(1), slides)]))
        self.same(a_drawing([], ends), a_drawing([level(0, 100)], [(on(1), [level(100 + Fraction(k, 5), 101 + Fraction(k, 5)) for k in range(5)])]))
        late = [level(k, k + Fraction(3, 2)) for k in (3, 0, 7)]
        self.same(a_drawing([level(0, 250), level(Fraction(1, 2), 199)], ends), a_drawing([level(0, 4)], [(on(1), slides[3:] + late)]))
        # The slide that would lead furthest on isn't there yet.
        early = [level(2, Fraction(5, 2)), level(Fraction(5, 2), 3), level(Fraction(11, 2), Fraction(33, 5))]
        self.same(a_drawing([], ends), a_drawing([level(0, 2)], [(on(1), early)]))
        self.parted(a_drawing([], ends), a_drawing([level(0, 2)], [(on(1), early[::2])]), 0)
        self.parted(a_drawing([level(0, 280)], ends), a_drawing([], [(on(1), slides[:-1])]), 0)
        self.parted(a_drawing([level(0, 280)], ends), a_drawing([level(0, 279)], [(on(1), slides[:-1])]), 0)
        self.parted(a_drawing([level(-1, 280)], ends), a_drawing([], [(on(1), slides + late)]), 0)


class Smaller(Look):
    def test_long_chains(self):
        slides = [level(Fraction(36 + k, 48), Fraction(37 + k, 48)) for k in range(12)]
        one = [(smaller(3, 4), [level(Fraction(3, 4), 1)])]
        deep = level(Fraction(3 ** 280, 4 ** 280), 1)
        self.same(a_drawing([deep], one), a_drawing([], [(smaller(3, 4), slides)]))
        self.same(a_drawing([deep], one), a_drawing([level(Fraction(1, 9), 1)], [(smaller(3, 4), slides[::-1])]))
        self.parted(a_drawing([deep], one), a_drawing([deep], [(smaller(3, 4), slides[1:])]), 0)
        self.parted(a_drawing([deep], one), a_drawing([level(Fraction(1, 2), 1)], [(smaller(3, 4), slides[:-1])]), 0)

    def test_told_otherwise(self):
        pieces = [dot(4, 1), level(1, 4, 2), stretch((1, 3), (1, 5)), ring((0, 9), (1, 9)), ring((0, 0), (3, 4)),
                  ("arc", point(0, 20), point(5, 20), point(3, 24)), level(2, 5), ring((3, 4), (0, 0))]
        for frame in (smaller(), smaller(3, 4), smaller(1, 2, 1), smaller(2, 3, 3, -1, point(1, 1))):
            one = a_drawing([dot(50, 50)], [(frame, pieces)])
            self.same(one, one)
            self.same(one, (one[0], [an_end(power(frame, 2), rounds(frame, pieces, 0, 2))]))
            self.same(one, a_drawing([dot(50, 50)] + rounds(frame, pieces, 0, 4), [(frame, rounds(frame, pieces, 4, 5))]))
            self.same(one, a_drawing([dot(50, 50)], [(frame, [piece]) for piece in pieces]))
            self.parted(one, a_drawing([dot(50, 50)] + rounds(frame, pieces, 0, 3), [(frame, rounds(frame, pieces, 4, 5))]), 0)

    def test_stretches_to_the_middle(self):
        ray = a_drawing([level(0, 8)], [(smaller(), [dot(0, 1)])])
        self.same(ray, a_drawing([dot(0)], [(smaller(), [dot(0, 1), level(4, 8)])]))
        self.same(ray, a_drawing([], [(smaller(), [dot(0, 1), level(0, 8)])]))
        self.same(ray, a_drawing([level(0, 3)], [(smaller(), [dot(0, 1), level(3, 8)])]))
        self.same(ray, a_drawing([level(0, 3), level(3, 4)], [(smaller(1, 4), [dot(0, 1), level(4, 8), dot(0, Fraction(1, 2))])]))
        # The middle itself is not drawn, though all that comes near it is.
        self.parted(ray, a_drawing([], [(smaller(), [dot(0, 1), level(4, 8)])]), 0)
        self.parted(ray, a_drawing([dot(0)], [(smaller(), [dot(0, 1), level(5, 8)])]), 0)
        self.parted(ray, a_drawing([level(-8, 0)], [(smaller(), [dot(0, 1)])]))
        for aside in (stretch((4, 0), (8, 1)), stretch((4, 1), (8, 0)), stretch((4, -1), (8, 1)), level(-8, -4)):
            self.parted(ray, a_drawing([dot(0)], [(smaller(), [dot(0, 1), aside])]))
        self.parted(ray, a_drawing([level(-1, 8)], [(smaller(), [dot(0, 1)])]), 1)
        self.same(a_drawing([level(-2, 8)], [(smaller(), [dot(0, 1)])]),
                  a_drawing([dot(0)], [(smaller(), [level(-2, -1), level(4, 8), dot(0, 1)])]))
        told = alike(ray, a_drawing([], [(smaller(), [dot(0, 1), level(4, 8)])]))
        self.assertEqual(told, ("unlike", 0, MIDDLE, ("still", 0), ("out", [(0, 1)])))

    def test_the_middle_on_a_ring(self):
        through = ring((1, 0), (0, 0))
        one = a_drawing([through, dot(0)], [(smaller(), [dot(5)])])
        self.same(one, a_drawing([through], [(smaller(), [dot(5), dot(0)])]))
        self.same(one, a_drawing([("arc", point(1, 0), point(2, 0), point(0, 0)), ("arc", point(1, 0), point(0, 0), point(2, 0))],
                                 [(smaller(), [dot(5)])]))
        self.parted(one, a_drawing([("arc", point(1, 0), point(2, 0), point(0, 0)), dot(0)], [(smaller(), [dot(5)])]), 0)
        # In each round the ring goes through the middle.
        flowing = a_drawing([dot(0)], [(smaller(), [through])])
        self.same(flowing, a_drawing([], [(smaller(), [through])]))
        self.same(flowing, a_drawing([through], [(smaller(), rounds(smaller(), [through], 1, 2))]))
        self.parted(flowing, a_drawing([], [(smaller(), rounds(smaller(), [through], 1, 2))]), 0)
        # Dots that flow to the middle across a still ring through it.
        self.parted(a_drawing([through], [(smaller(), [dot(2, 2)])]), a_drawing([through], [(smaller(), [dot(Fraction(1, 2), Fraction(1, 2))])]), 0)
        self.same(a_drawing([through], [(smaller(), [dot(1, 1)])]), a_drawing([through], [(smaller(), [dot(Fraction(1, 2), Fraction(1, 2))])]))

    def test_rings_about_the_middle(self):
        one = a_drawing([], [(smaller(), [ring((0, 0), (8, 0))])])
        self.same(one, a_drawing([ring((0, 0), (0, 8))], [(smaller(1, 4), [ring((0, 0), (0, 4)), ring((0, 0), (2, 0))])]))
        self.parted(one, a_drawing([ring((0, 0), (0, 8))], [(smaller(1, 4), [ring((0, 0), (0, 4)), ring((0, 0), (3, 0))])]))
        halves = [("arc", MIDDLE, point(8, 0), point(-8, 0)), ("arc", MIDDLE, point(-4, 0), point(4, 0))]
        self.parted(one, a_drawing([], [(smaller(), halves)]), 0)
        self.same(one, a_drawing([("arc", MIDDLE, point(-8, 0), point(8, 0))], [(smaller(), halves)]))

    def test_a_late_round(self):
        size = Fraction(3, 4)
        one = a_drawing([], [(smaller(3, 4), [dot(1)])])
        dots = [dot(size ** k) for k in range(200)]
        self.same(one, a_drawing(dots, [(smaller(3, 4), [dot(size ** 200)])]))
        self.parted(one, a_drawing(dots[:-1], [(smaller(3, 4), [dot(size ** 200)])]), 0)
        told = alike(one, a_drawing(dots[:-1], [(smaller(3, 4), [dot(size ** 200)])]))
        self.assertEqual(told[:4], ("unlike", 0, point(size ** 199, 0), ("end", 0, 0, 199)))
        self.same(a_drawing([level(size ** 250, 1)], [(smaller(3, 4), [dot(1)])]),
                  a_drawing([level(size ** 250, 1)], [(smaller(3, 4), [dot(size ** 251)])]))
        self.parted(a_drawing([level(size ** 250, 1)], [(smaller(3, 4), [dot(1)])]),
                    a_drawing([level(size ** 250, 1)], [(smaller(3, 4), [dot(size ** 252)])]), 0)


class Near(Look):
    """Arcs that come nearer to the middle of an end than any of its rounds that can be asked."""

    def setUp(self):
        p = (fraction(1, LONG - 1), fraction(1, LONG - 2))
        middle = (fraction(1, LONG), fraction(1, LONG))
        self.arc = ("arc", point(10 ** 59, 10 ** 59), p, p[::-1])
        self.end = (about(middle, 0, 1, Fraction(3, 4)), [dot(LONG, LONG)])

    def test_another_point_is_told(self):
        other = a_drawing([], [self.end])
        self.assertRaises(TooMuch, asked, other, self.arc[2])
        self.parted(a_drawing([self.arc]), other, 1)

    def test_none_can_be_asked(self):
        self.assertRaises(TooMuch, alike, a_drawing([self.arc], [self.end]), a_drawing([], [self.end]))


class Any(Look):
    def test_told_otherwise(self):
        chance = source("alike")
        for _ in range(150):
            one = some_kin(chance, chance.choice(("none", "on", "smaller")))
            self.same(one, told_otherwise(chance, one))

    def test_changed(self):
        chance = source("unlike")
        words = []
        for _ in range(200):
            one = some_kin(chance, chance.choice(("none", "on", "smaller")))
            other = told_otherwise(chance, one)
            piece = some_kin_piece(chance, point(1, 1), (2, 1))
            rows = chance.choice([other[0]] + [end[3] for end in other[1]])
            if len(rows) > 1 and chance.random() < .5:
                rows.pop()
            else:
                rows.append((piece, 0, ()))
            told = alike(one, other)
            words.append(told[0])
            if told[0] == "alike":
                self.same(one, other)
            else:
                self.parted(one, other)
        self.assertTrue(all(words.count(word) > 20 for word in ("alike", "unlike")))


class Drawn(Look):
    def test_programs(self):
        half, step = ("grow", (1, 2)), ("go", (4, 1))
        bend, dot_row, left, skip = ("quarter", (1, 1)), ("dot",), ("left",), ("skip", (4, 1))
        for rows in ((step, left, half), (bend, half), (step, skip), (bend, dot_row, ("mirror",), skip), (step, left),
                     (("again", 3, (bend, half)), ("keep", (left, step)), ("mirror",))):
            one = drawn((left, step, ("ever", rows)))
            self.same(one, drawn((left, step, ("ever", rows + rows))))
            self.same(one, drawn((left, step, ("keep", (("again", 3, rows), ("ever", rows))))))
        spiral = drawn((("ever", (bend, half)),))
        self.same(spiral, drawn((bend, half, ("ever", (bend, half)))))
        self.parted(spiral, drawn((("ever", (bend, ("keep", (("skip", (9, 1)), dot_row)), half)),)), 1)
        self.assertRaises(NoKin, alike, spiral, drawn((("ever", (bend, ("grow", (1, 4)))),)))
        self.parted(spiral, drawn((("skip", (0, 1)), bend, half, bend, half, bend, ("skip", (0, 1)))), 0)
        self.parted(drawn((("ever", (step, skip)),)), drawn((("ever", (step, step)),)), 1)


class Refused(Look):
    def test_no_kin(self):
        right, up, small = [a_drawing([], [(frame, [dot(1)])]) for frame in (on(1), on(0, 1), smaller())]
        for one, other in ((right, up), (right, small), (small, up)):
            self.assertRaises(NoKin, alike, one, other)
            both = ([], one[1] + other[1])
            self.assertRaises(NoKin, alike, both, both)
        self.assertRaises(NoKin, alike, (right[0] + [(dot(k), 0, ()) for k in range(301)], right[1]), up)

    def test_too_much(self):
        many = a_drawing([dot(k) for k in range(301)])
        self.assertRaises(TooMuch, alike, many, many)
        right = a_drawing([], [(on(1), [dot(0)])])
        self.same(right, right)
        self.assertRaises(TooMuch, alike, right, a_drawing([dot(301)]))
        self.assertRaises(TooMuch, alike, a_drawing([("dot", (fraction(1, 2 ** 301), (0, 1)))]), a_drawing([], [(smaller(), [dot(1)])]))


class Kept(Look):
    def test_many_figures(self):
        chance = source("long alike")
        w, c = long_point(chance), long_point(chance)
        p, q = sorted((long_point(chance), long_point(chance)), key=exact_point)
        pieces = [("dot", p), ("stretch", p, q), ("ring", q, p)]
        for frame in ((w, 0, 1, (1, 1)), about(c, 0, 1, Fraction(3, 4)), about(c, 2, 1, Fraction(LONG // 2, LONG))):
            one = a_drawing([], [(frame, pieces)])
            self.same(one, a_drawing(pieces, [(power(frame, 2), rounds(frame, pieces, 1, 3))]))
            self.parted(one, a_drawing(pieces, [(power(frame, 2), rounds(frame, pieces, 2, 3))]), 0)
            self.parted(one, a_drawing(pieces[2:], [(frame, rounds(frame, pieces, 1, 2))]), 0)

    def test_nothing_kept(self):
        one = a_drawing([level(0, 8)], [(smaller(), [dot(0, 1), ring((0, 0), (3, 4))])])
        other = a_drawing([dot(0)], [(smaller(), [dot(0, 1), level(4, 8), ring((0, 0), (5, 0))])])
        same = copy.deepcopy((one, other))
        told = alike(one, other)
        self.assertEqual((one, other), same)
        again = copy.deepcopy(told)
        for papers in told[2]:
            for paper in papers:
                paper.clear()
            papers.clear()
        told[1][1][0].clear()
        self.assertEqual(alike(one, other), again)

    def test_arguments(self):
        self.assertEqual(names_of(alike), ["one", "other"])


if __name__ == "__main__":
    unittest.main()
