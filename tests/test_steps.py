"""What asked, kin and few stand on: plain maps by their kinds, whole steps, straight ways, an order by a def."""

import unittest
from fractions import Fraction

from arcmill.fractions import absolute, greatest, least
from arcmill.frames import first, led, led_piece
from arcmill.movers import count, kind, power
from arcmill.order import in_order
from arcmill.points import before, between, farther, side
from arcmill.steps import first_step, last_step, most_times, raised, stepped
from arcmill.ways import exact_root, meetings, powers_between, root_of, whole_root
from tests.helpers import (LONG, exact, exact_point, fraction, has, long_point, point, some_frame, some_piece,
                           some_point, some_point_of, source, square)


class Steps(unittest.TestCase):
    def test_raised(self):
        for n in range(-5, 30):
            self.assertEqual(raised((3, 4), n), fraction(Fraction(3, 4) ** n))

    def test_stepped(self):
        chance = source("stepped")
        self.assertEqual(stepped(("none",), 3), first())
        for _ in range(60):
            frame = some_frame(chance)[:3] + (chance.choice(((1, 1), (1, 2), (3, 4))),)
            plain = power(frame, count(frame))
            if kind(frame)[0] != "round":
                for n in range(6):
                    self.assertEqual(stepped(kind(frame), n), power(plain, n))
                    p = some_point(chance)
                    self.assertEqual(led(stepped(kind(frame), -n), led(power(plain, n), p)), p)

    def test_whole_steps(self):
        for size in (Fraction(1, 2), Fraction(3, 4), Fraction(LONG - 1, 2 * LONG)):
            sort, base = ("smaller", point(0, 0), fraction(size)), 1 / size
            for n in (-40, -3, -1, 0, 1, 2, 7, 8, 100):
                for part in (Fraction(1), Fraction(101, 100), Fraction(100, 101)):
                    number = base ** n * part
                    self.assertEqual(last_step(sort, fraction(number)), n if part >= 1 else n - 1)
                    self.assertEqual(first_step(sort, fraction(number)), n if part <= 1 else n + 1)
        sort = ("on", point(1, 0))
        self.assertEqual([last_step(sort, (k, 3)) for k in (-4, -3, -2, 4)], [-2, -1, -1, 1])
        self.assertEqual([first_step(sort, (k, 3)) for k in (-4, -3, -2, 4)], [-1, -1, 0, 2])
        self.assertEqual([most_times((2, 1), (k, 1)) for k in (1, 2, 3, 4, 1023, 1024)], [0, 1, 1, 2, 9, 10])


class Ways(unittest.TestCase):
    def test_roots(self):
        for n in list(range(3000)) + [n ** 2 for n in range(5005)] + [LONG ** 2, LONG ** 2 - 1, LONG ** 2 + 2 * LONG]:
            root = whole_root(n)
            self.assertTrue(root ** 2 <= n < (root + 1) ** 2)
            self.assertEqual(exact_root(n), root if root ** 2 == n else None)
        self.assertIsNone(exact_root(-4))
        self.assertEqual(root_of((9, 4)), (3, 2))
        self.assertEqual(root_of((0, 1)), (0, 1))
        for none in ((-4, 9), (2, 9), (4, 3)):
            self.assertIsNone(root_of(none))

    def test_meetings(self):
        chance = source("meetings")
        for _ in range(300):
            piece, start, way = some_piece(chance), some_point(chance), some_point(chance)
            if way == point(0, 0):
                continue
            if chance.random() < .6:
                (x, y), (u, v) = exact_point(some_point_of(chance, piece)), exact_point(way)
                start = point(x - 2 * u, y - 2 * v)
            (x, y), (u, v) = exact_point(start), exact_point(way)
            told = meetings(piece, start, point(x + u, y + v))
            numbers = [exact(number) for pair in told for number in pair]
            for low, high in told:
                numbers += [(exact(low) + exact(high)) / 2]
                self.assertLessEqual(exact(low), exact(high))
            self.assertEqual(len(set(told)), len(told))
            for t in [Fraction(2)] + numbers + [number + Fraction(1, 7) for number in numbers]:
                within = any(exact(low) <= t <= exact(high) for low, high in told)
                self.assertEqual(has(piece, point(x + t * u, y + t * v)), within)

    def test_powers(self):
        chance = source("powers between")
        for sort in (("on", point(2, 1)), ("smaller", point(1, 1), (1, 2))):
            for _ in range(100):
                piece = some_piece(chance, 4, 1)
                p = some_point_of(chance, led_piece(stepped(sort, chance.randint(-3, 3)), piece))
                if p == sort[1]:
                    continue
                told = powers_between(sort, piece, p)
                for n in range(-5, 6):
                    within = any((low is None or low <= n) and n <= high for low, high in told)
                    self.assertEqual(within, has(led_piece(stepped(sort, n), piece), p))


class Numbers(unittest.TestCase):
    def test_fractions(self):
        self.assertEqual((absolute((-2, 3)), absolute((2, 3)), absolute((0, 1))), ((2, 3), (2, 3), (0, 1)))
        self.assertEqual((least((1, 2), (1, 3)), least((-1, 2), (1, 3))), ((1, 3), (-1, 2)))
        self.assertEqual((greatest((1, 2), (1, 3)), greatest((-1, 2), (1, 3))), ((1, 2), (1, 3)))

    def test_farther(self):
        chance = source("farther")
        for make in (some_point, long_point):
            for _ in range(60):
                c, p, q = make(chance), make(chance), make(chance)
                self.assertEqual(farther(c, p, q), (square(c, p) > square(c, q)) - (square(c, p) < square(c, q)))
                self.assertEqual(farther(c, p, p), 0)
                self.assertEqual(side(p, q, between(p, q, (3, 7))), 0)
                self.assertEqual(between(p, q, (0, 1)), p)
                self.assertEqual(between(p, q, (1, 1)), q)

    def test_in_order(self):
        chance = source("order")
        for many in (0, 1, 2, 3, 10, 50):
            points = [some_point(chance, 3, 2) for _ in range(many)]
            same = list(points)
            self.assertEqual(in_order(points, before), sorted(points, key=exact_point))
            self.assertEqual(points, same)
        # Things that stand ahead of none of each other keep their order.
        pairs = [(k % 3, k) for k in range(20)]
        self.assertEqual(in_order(pairs, lambda one, other: one[0] < other[0]), sorted(pairs))


if __name__ == "__main__":
    unittest.main()
