"""Fractions [5], and of [2] and [3] what bears on them."""

import unittest
from fractions import Fraction

from arcmill.errors import MillError, NoKin, NoNumber, NoPiece, NoRow, NoText, TooMuch
from arcmill.fractions import below, minus, over, plus, ratio, times
from tests.helpers import LONG, exact, fraction, is_fraction, long_number, names_of, some_number, source


def pairs():
    chance = source("fractions")
    for _ in range(300):
        yield some_number(chance, 30, 30), some_number(chance, 30, 30)
    for _ in range(60):
        yield long_number(chance), long_number(chance)


class Ratio(unittest.TestCase):
    def test_plain_ones(self):
        self.assertEqual(ratio(3, 4), (3, 4))
        self.assertEqual(ratio(7, 1), (7, 1))

    def test_common_divisor(self):
        self.assertEqual(ratio(6, 4), (3, 2))
        self.assertEqual(ratio(12, 18), (2, 3))
        self.assertEqual(ratio(35, 7), (5, 1))
        self.assertEqual(ratio(9, 9), (1, 1))

    def test_nothing_above(self):
        for bottom in (1, 5, -1, -12, LONG, -LONG):
            self.assertEqual(ratio(0, bottom), (0, 1))

    def test_below_nothing(self):
        self.assertEqual(ratio(-6, 4), (-3, 2))
        self.assertEqual(ratio(6, -4), (-3, 2))
        self.assertEqual(ratio(-6, -4), (3, 2))
        self.assertEqual(ratio(-8, 2), (-4, 1))

    def test_sixty_figures(self):
        self.assertEqual(ratio(LONG, LONG - 1), (LONG, LONG - 1))
        self.assertEqual(ratio(LONG, 9), (int("1" * 60), 1))
        self.assertEqual(ratio(-(10 ** 59), 2 * 10 ** 59), (-1, 2))
        chance = source("ratio")
        for _ in range(100):
            top, bottom = chance.randint(-LONG, LONG), chance.randint(-LONG, LONG)
            if bottom:
                self.assertEqual(ratio(top, bottom), fraction(top, bottom))

    def test_all_small_ones(self):
        for top in range(-24, 25):
            for bottom in range(-24, 25):
                if bottom:
                    told = ratio(top, bottom)
                    self.assertTrue(is_fraction(told), told)
                    self.assertEqual(exact(told), Fraction(top, bottom))

    def test_nothing_below_is_refused(self):
        for top in (0, 1, -1, LONG):
            with self.assertRaises(NoNumber) as told:
                ratio(top, 0)
            refusal = told.exception
            self.assertIsInstance(refusal, MillError)
            self.assertIsInstance(refusal, ValueError)
            for other in (NoPiece, TooMuch, NoKin, NoRow, NoText):
                self.assertNotIsInstance(refusal, other)


class Reckoned(unittest.TestCase):
    def test_by_hand(self):
        half, third = (1, 2), (1, 3)
        self.assertEqual(plus(half, third), (5, 6))
        self.assertEqual(minus(half, third), (1, 6))
        self.assertEqual(minus(third, half), (-1, 6))
        self.assertEqual(times(half, third), (1, 6))
        self.assertEqual(over(half, third), (3, 2))
        self.assertEqual(over(third, half), (2, 3))
        self.assertEqual(plus(half, half), (1, 1))
        self.assertEqual(minus(half, half), (0, 1))
        self.assertEqual(times((0, 1), third), (0, 1))
        self.assertEqual(times((2, 3), (3, 2)), (1, 1))
        self.assertEqual(over((0, 1), third), (0, 1))
        self.assertEqual(over(half, (-1, 3)), (-3, 2))

    def test_held_against_python_s_own(self):
        for one, other in pairs():
            p, q = fraction(one), fraction(other)
            self.assertEqual(plus(p, q), fraction(one + other))
            self.assertEqual(minus(p, q), fraction(one - other))
            self.assertEqual(times(p, q), fraction(one * other))
            if other:
                self.assertEqual(over(p, q), fraction(one / other))

    def test_what_is_told_is_a_fraction(self):
        for one, other in pairs():
            p, q = fraction(one), fraction(other)
            told = [plus(p, q), minus(p, q), times(p, q)]
            if other:
                told.append(over(p, q))
            for each in told:
                self.assertTrue(is_fraction(each), each)

    def test_divided_by_nothing_is_refused(self):
        for one in ((0, 1), (1, 1), (-3, 7), (LONG, 1)):
            with self.assertRaises(NoNumber):
                over(one, (0, 1))

    def test_what_is_told_may_be_handed_in(self):
        grown = (LONG, LONG - 1)
        for _ in range(4):
            grown = times(grown, grown)
        self.assertEqual(grown, (LONG ** 16, (LONG - 1) ** 16))
        self.assertEqual(over(grown, grown), (1, 1))
        self.assertEqual(minus(plus(grown, (1, 3)), grown), (1, 3))


class Below(unittest.TestCase):
    def test_by_hand(self):
        self.assertIs(below((1, 3), (1, 2)), True)
        self.assertIs(below((1, 2), (1, 3)), False)
        self.assertIs(below((1, 2), (1, 2)), False)
        self.assertIs(below((-1, 2), (-1, 3)), True)
        self.assertIs(below((-1, 3), (-1, 2)), False)
        self.assertIs(below((-1, 2), (0, 1)), True)
        self.assertIs(below((0, 1), (0, 1)), False)
        self.assertIs(below((LONG - 1, LONG), (1, 1)), True)
        self.assertIs(below((LONG, LONG - 1), (1, 1)), False)

    def test_held_against_python_s_own(self):
        for one, other in pairs():
            self.assertIs(below(fraction(one), fraction(other)), one < other)


class Interface(unittest.TestCase):
    def test_arguments(self):
        self.assertEqual(names_of(ratio), ["top", "bottom"])
        for deed in (plus, minus, times, over, below):
            self.assertEqual(names_of(deed), ["one", "other"])

    def test_asked_twice_the_same_is_told(self):
        self.assertEqual(ratio(10, 4), ratio(10, 4))
        for deed in (plus, minus, times, over, below):
            self.assertEqual(deed((10, 3), (1, 4)), deed((10, 3), (1, 4)))


if __name__ == "__main__":
    unittest.main()
