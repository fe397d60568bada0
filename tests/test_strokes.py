"""The legs and strokes of a program [32], [33], and what is asked of them [34] to [36]."""

import copy
import unittest
from fractions import Fraction

from arcmill.areas import area, cut_strokes, slivers
from arcmill.errors import TooMuch
from arcmill.going import drawn
from arcmill.programs import program_of
from arcmill.rows import piece_of
from arcmill.strokes import strokes
from arcmill.winding import inside, winding
from tests.helpers import is_point, names_of, point, source
from tests.rows import DOT, GO, LEFT, MIRROR, RIGHT, ROUND, Pen, again, ever, keep, row, some_rows
from tests.strokes import bend


def straight(p, q):
    return ("straight", point(*p), point(*q))


SQUARE = again(4, row("go", 2), LEFT)
# In the first frame: what a row goes along, and the way back where that is not closed.
BY_HAND = [
    (row("go", 3), [straight((0, 0), (3, 0)), straight((3, 0), (0, 0))]),
    (row("go", -3), [straight((0, 0), (-3, 0)), straight((-3, 0), (0, 0))]),
    (row("side", -3, Fraction(1, 2)), [straight((0, 0), (-3, Fraction(1, 2))), straight((-3, Fraction(1, 2)), (0, 0))]),
    (row("quarter", 2), [bend((0, 2), (0, 0), (2, 2), 1), straight((2, 2), (0, 0))]),
    (row("quarter", -2), [bend((0, -2), (0, 0), (2, -2), -1), straight((2, -2), (0, 0))]),
    (row("half", 2), [bend((0, 2), (0, 0), (0, 4), 1), straight((0, 4), (0, 0))]),
    (row("half", -2), [bend((0, -2), (0, 0), (0, -4), -1), straight((0, -4), (0, 0))]),
    (row("arc", 3, 4, 8, 4), [bend((3, 4), (0, 0), (8, 4), 1), straight((8, 4), (0, 0))]),
    (row("arc", -3, -4, -3, 1), [bend((-3, -4), (0, 0), (-3, 1), 1), straight((-3, 1), (0, 0))]),
    (row("arc", 3, 4, 0, 0), [bend((3, 4), (0, 0), (0, 0), 1)]),
]


class Legs(unittest.TestCase):
    def test_in_the_first_frame(self):
        for each, legs in BY_HAND:
            self.assertEqual(strokes((each,)), [legs], each)

    def test_no_legs(self):
        for program in ((), (DOT,), (row("go", 0),), (row("side", 0, 0),), (row("skip", 5), LEFT, ROUND, MIRROR, row("grow", 2)),
                        (ever(GO),), (again(0, GO),), (keep(), again(3)), (again(3, row("skip", 1), DOT),)):
            self.assertEqual(strokes(program), [], program)

    def test_mirrored(self):
        self.assertEqual(strokes((MIRROR, row("quarter", 2))), [[bend((0, -2), (0, 0), (2, -2), -1), straight((2, -2), (0, 0))]])
        self.assertEqual(strokes((MIRROR, row("half", -2))), [[bend((0, 2), (0, 0), (0, 4), 1), straight((0, 4), (0, 0))]])
        self.assertEqual(strokes((MIRROR, row("arc", 3, 4, 0, 0))), [[bend((3, -4), (0, 0), (0, 0), -1)]])
        self.assertEqual(strokes((MIRROR, row("arc", 3, 4, 8, 4))), [[bend((3, -4), (0, 0), (8, -4), -1), straight((8, -4), (0, 0))]])
        self.assertEqual(strokes((MIRROR, MIRROR, row("arc", 3, 4, 0, 0))), [[bend((3, 4), (0, 0), (0, 0), 1)]])
        self.assertEqual(strokes((MIRROR, row("side", 1, 2))), [[straight((0, 0), (1, -2)), straight((1, -2), (0, 0))]])

    def test_turned_and_grown(self):
        program = (row("skip", 5), LEFT, row("grow", 3), row("quarter", -1))
        self.assertEqual(strokes(program), [[bend((8, 0), (5, 0), (8, 3), -1), straight((8, 3), (5, 0))]])
        program = (RIGHT, MIRROR, row("grow", Fraction(1, 2)), row("half", 2))
        self.assertEqual(strokes(program), [[bend((-1, 0), (0, 0), (-2, 0), -1), straight((-2, 0), (0, 0))]])


class Strokes(unittest.TestCase):
    def test_closed(self):
        self.assertEqual(strokes((SQUARE,)), [[straight((0, 0), (2, 0)), straight((2, 0), (2, 2)), straight((2, 2), (0, 2)),
                                               straight((0, 2), (0, 0))]])
        legs = strokes((again(4, row("quarter", 1)),))
        self.assertEqual(legs, [[bend((0, 1), (0, 0), (1, 1)), bend((0, 1), (1, 1), (0, 2)), bend((0, 1), (0, 2), (-1, 1)),
                                 bend((0, 1), (-1, 1), (0, 0))]])

    def test_not_closed(self):
        self.assertEqual(strokes((GO, LEFT, GO)), [[straight((0, 0), (1, 0)), straight((1, 0), (1, 1)), straight((1, 1), (0, 0))]])
        self.assertEqual(strokes((row("go", 2), row("go", -1))), [[straight((0, 0), (2, 0)), straight((2, 0), (1, 0)),
                                                                 straight((1, 0), (0, 0))]])

    def test_a_closed_one_goes_on(self):
        program = (SQUARE, row("go", 1))
        self.assertEqual(strokes(program), [strokes((SQUARE,))[0] + [straight((0, 0), (1, 0)), straight((1, 0), (0, 0))]])
        self.assertEqual(strokes((SQUARE, SQUARE)), [strokes((SQUARE,))[0] * 2])
        ring = row("arc", 1, 0, 0, 0)
        self.assertEqual(strokes((ring, GO, ring)), [[bend((1, 0), (0, 0), (0, 0)), straight((0, 0), (1, 0)),
                                                     bend((2, 0), (1, 0), (1, 0)), straight((1, 0), (0, 0))]])

    def test_skips_between(self):
        program = (GO, row("skip", 1), GO, LEFT, GO)
        self.assertEqual(strokes(program), [[straight((0, 0), (1, 0)), straight((1, 0), (0, 0))],
                                            [straight((2, 0), (3, 0)), straight((3, 0), (3, 1)), straight((3, 1), (2, 0))]])
        # A skip there and back, and one to where another stroke began.
        self.assertEqual(strokes((GO, row("skip", 1), row("skip", -1), GO)), strokes((GO, GO)))
        self.assertEqual(strokes((GO, row("skip", -1), LEFT, GO)), [[straight((0, 0), (1, 0)), straight((1, 0), (0, 0))],
                                                                   [straight((0, 0), (0, 1)), straight((0, 1), (0, 0))]])
        self.assertEqual(strokes((keep(GO), LEFT, GO)), strokes((GO, row("skip", -1), LEFT, GO)))

    def test_dots_and_evers_between(self):
        program = (DOT, GO, DOT, row("go", 0), ever(GO, LEFT), row("side", 0, 0), keep(DOT, LEFT), keep(ever(GO)), GO, DOT)
        self.assertEqual(strokes(program), strokes((GO, GO)))
        self.assertEqual(strokes((GO, row("skip", 1), DOT, row("skip", -1), GO)), strokes((GO, GO)))
        self.assertEqual(strokes((again(2, GO, ever(row("quarter", 1))),)), strokes((GO, GO)))

    def test_too_much(self):
        program = (again(12, again(5, *[GO] * 4, LEFT)),)
        self.assertEqual(sum(map(len, strokes(program))), 240)
        self.assertRaises(TooMuch, strokes, program + (LEFT,))
        self.assertRaises(TooMuch, strokes, program + (ever(DOT),))
        self.assertRaises(TooMuch, strokes, (again(12, again(12, again(12, GO))),))
        hundred = again(10, again(10, LEFT))
        self.assertEqual(strokes((hundred,) * 3), [])
        self.assertRaises(TooMuch, strokes, (hundred,) * 3 + (GO,))
        self.assertEqual(strokes((again(0, hundred, hundred), hundred, hundred, ever(again(10, again(10, DOT))))), [])


class Any(unittest.TestCase):
    def test_by_another_pen(self):
        chance = source("strokes")
        for _ in range(150):
            program = some_rows(chance, 3, False)
            pen = Pen()
            pen.go(program)
            if pen.done > 300:
                self.assertRaises(TooMuch, strokes, program)
                continue
            told = strokes(program)
            self.look_at_form(told)
            # Without the ways back all legs are there, in order.
            legs, at = [], 0
            for stroke in told:
                many = 0
                while at + many < len(pen.legs) and many < len(stroke) and self.ends_of(stroke[many]) == self.ends(pen.legs[at + many]):
                    many += 1
                self.assertIn(len(stroke) - many, (0, 1))
                if at > 0:
                    self.assertNotEqual(self.ends(pen.legs[at])[0], self.ends(pen.legs[at - 1])[1])
                for before, later in zip(pen.legs[at:at + many], pen.legs[at + 1:at + many]):
                    self.assertEqual(self.ends(before)[1], self.ends(later)[0])
                legs += stroke[:many]
                at += many
            self.assertEqual([leg if leg[0] == "straight" else leg[:1] + leg[2:] for leg in legs], pen.legs)
            pieces = [each[0] for each in drawn(program)[0] if each[0][0] != "dot"]
            self.assertEqual([piece_of(leg) for leg in legs], pieces)

    def ends(self, leg):
        return leg[1:3]

    def ends_of(self, leg):
        return leg[1:3] if leg[0] == "straight" else leg[2:4]

    def look_at_form(self, told):
        self.assertIs(type(told), list)
        for stroke in told:
            self.assertIs(type(stroke), list)
            for leg, later in zip(stroke, stroke[1:] + stroke[:1]):
                self.assertIs(type(leg), tuple)
                self.assertEqual(self.ends_of(leg)[1], self.ends_of(later)[0])
                points = leg[1:] if leg[0] == "straight" else leg[1:4]
                self.assertTrue(len(points) == (2 if leg[0] == "straight" else 3) and all(is_point(p) for p in points))
                self.assertTrue(leg[0] == "straight" and leg[1] != leg[2] or leg[0] == "bend" and leg[4] in (1, -1))


class AskedOf(unittest.TestCase):
    def test_windings(self):
        told = strokes((SQUARE, row("skip", 1), LEFT, row("skip", 1), row("arc", Fraction(1, 2), 0, 0, 0)))
        self.assertEqual(winding(told, point(Fraction(1, 8), 1)), 1)
        self.assertEqual(winding(told, point(1, Fraction(3, 2))), 2)
        self.assertEqual(winding(told, point(5, 1)), 0)
        self.assertIsNone(winding(told, point(1, 2)))
        self.assertIs(inside(told, "odd", point(1, Fraction(3, 2))), False)
        self.assertIs(inside(told, "wound", point(1, Fraction(3, 2))), True)
        self.assertEqual(winding(strokes((MIRROR, SQUARE)), point(1, -1)), -1)

    def test_areas(self):
        self.assertEqual(area(strokes((SQUARE,)), "odd", 1), ((4, 1), (4, 1)))
        self.assertEqual(area(strokes((SQUARE, SQUARE)), "odd", 4), ((0, 1), (0, 1)))
        self.assertEqual(area(strokes((SQUARE, SQUARE)), "wound", 4), ((4, 1), (4, 1)))
        ring = strokes((row("arc", 0, 1, 0, 0),))
        self.assertEqual([len(stroke) for stroke in cut_strokes(ring, 3)], [12])
        self.assertEqual(slivers(ring, 1), (2, 1))
        low, high = [Fraction(*number) for number in area(ring, "odd", 4)]
        self.assertTrue(low < Fraction(31416, 10000) and Fraction(31415, 10000) < high)
        self.assertEqual(area(strokes((row("grow", 12), MIRROR, row("half", 1))), "wound", 1), ((0, 1), (288, 1)))
        self.assertRaises(TooMuch, area, strokes((again(7, row("quarter", 1)),)), "odd", 4)
        self.assertEqual(area(strokes((ever(GO, LEFT),)), "odd", 1), ((0, 1), (0, 1)))


class Kept(unittest.TestCase):
    def test_many_figures(self):
        rows = [row("side", Fraction(999999, 999983 - k), Fraction(-k, 999979)) for k in range(12)]
        program = program_of((again(10, row("grow", Fraction(11, 12)), *rows, row("quarter", Fraction(-999983, 999979))),))
        pen = Pen()
        pen.go(program)
        told = strokes(program)
        self.assertEqual(len(told), 1)
        self.assertEqual([leg if leg[0] == "straight" else leg[:1] + leg[2:] for leg in told[0][:-1]], pen.legs)

    def test_nothing_kept(self):
        program = (SQUARE, row("skip", 1), GO)
        told = strokes(program)
        same = copy.deepcopy(told)
        told[0].clear()
        told.clear()
        self.assertEqual(strokes(program), same)

    def test_arguments(self):
        self.assertEqual(names_of(strokes), ["program"])


if __name__ == "__main__":
    unittest.main()
