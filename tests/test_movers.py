"""Powers, counts and kinds of maps [26], [27]."""

import unittest

from arcmill.frames import behind, first, led
from arcmill.movers import count, kind, power
from tests.helpers import (LONG, exact, exact_point, is_frame, is_point, is_whole, long_point, names_of, point,
                           some_frame, some_point, source)

MIDDLE = point(0, 0)
COUNTS = {(0, 1): 1, (1, 1): 4, (2, 1): 2, (3, 1): 4, (0, -1): 2, (1, -1): 2, (2, -1): 2, (3, -1): 2}


def all_turns(place, size):
    return [(place, turns, hand, size) for turns in range(4) for hand in (1, -1)]


class Power(unittest.TestCase):
    def test_none_and_one(self):
        for frame in all_turns(point(3, -1), (1, 2)):
            self.assertEqual(power(frame, 0), first())
            self.assertEqual(power(frame, 1), frame)

    def test_step_by_step(self):
        chance = source("power")
        frames = [frame for size in ((1, 1), (3, 4), (5, 2)) for frame in all_turns(point(3, -1), size)]
        frames += [some_frame(chance) for _ in range(20)] + [some_frame(chance, long=True) for _ in range(3)]
        for frame in frames:
            step = first()
            for n in range(13):
                told = power(frame, n)
                self.assertEqual(told, step)
                self.assertTrue(is_frame(told))
                step = behind(frame, step)

    def test_by_hand(self):
        self.assertEqual(power((point(1, 0), 0, 1, (1, 2)), 3), (((7, 4), (0, 1)), 0, 1, (1, 8)))
        self.assertEqual(power((point(1, 0), 1, 1, (1, 1)), 2), (point(1, 1), 2, 1, (1, 1)))
        self.assertEqual(power((point(1, 2), 0, -1, (1, 1)), 2), (point(2, 0), 0, 1, (1, 1)))

    def test_counts_of_many_figures(self):
        for n in (10 ** 59, 10 ** 59 + 1, LONG - 1, LONG):
            self.assertEqual(power((point(3, -1), 0, 1, (1, 1)), n), (point(3 * n, -n), 0, 1, (1, 1)))
            for frame in all_turns(point(3, -1), (1, 1)):
                many, rest = divmod(n, count(frame))
                plain = power(frame, count(frame))
                x, y = exact_point(plain[0])
                moved = (point(many * x, many * y), 0, 1, (1, 1))
                self.assertEqual(power(frame, n), behind(moved, power(frame, rest)))
                self.assertEqual(power(frame, n + 1), behind(frame, power(frame, n)))

    def test_many_figures_of_both(self):
        place = ((LONG, LONG - 1), (-1, LONG))
        x, y = exact_point(place)
        self.assertEqual(power((place, 0, 1, (1, 1)), LONG), (point(LONG * x, LONG * y), 0, 1, (1, 1)))
        self.assertEqual(power((place, 2, 1, (1, 1)), LONG - 1), first())
        self.assertEqual(power((place, 2, 1, (1, 1)), LONG), (place, 2, 1, (1, 1)))


class Count(unittest.TestCase):
    def test_each_of_the_turns_with_each_hand(self):
        for place in (MIDDLE, point(3, -1), ((LONG, 7), (1, LONG))):
            for size in ((1, 1), (1, 2), (3, 1)):
                for frame in all_turns(place, size):
                    told = count(frame)
                    self.assertEqual(told, COUNTS[frame[1:3]])
                    self.assertTrue(is_whole(told))

    def test_the_least_that_is_plain(self):
        for frame in all_turns(point(3, -1), (2, 3)):
            plain = [n for n in (1, 2, 4) if power(frame, n)[1:3] == (0, 1)]
            self.assertEqual(count(frame), plain[0])

    def test_the_plain_map(self):
        chance = source("plain")
        for _ in range(40):
            frame = some_frame(chance)
            plain = power(frame, count(frame))
            p = some_point(chance)
            (x, y), (wx, wy), s = exact_point(p), exact_point(plain[0]), exact(plain[3])
            self.assertEqual(led(plain, p), point(s * x + wx, s * y + wy))


class Kind(unittest.TestCase):
    def test_round(self):
        self.assertEqual(kind(first()), ("round",))
        for turns in (1, 2, 3):
            self.assertEqual(kind((point(3, -1), turns, 1, (1, 1))), ("round",))
        self.assertEqual(kind((point(0, 5), 0, -1, (1, 1))), ("round",))
        self.assertEqual(kind((point(5, 0), 2, -1, (1, 1))), ("round",))
        self.assertEqual(kind((point(2, -2), 1, -1, (1, 1))), ("round",))
        self.assertEqual(kind((point(2, 2), 3, -1, (1, 1))), ("round",))

    def test_on(self):
        self.assertEqual(kind((point(3, -1), 0, 1, (1, 1))), ("on", point(3, -1)))
        self.assertEqual(kind((point(3, 5), 0, -1, (1, 1))), ("on", point(6, 0)))
        self.assertEqual(kind((point(3, 5), 2, -1, (1, 1))), ("on", point(0, 10)))
        self.assertEqual(kind((point(3, 1), 1, -1, (1, 1))), ("on", point(4, 4)))
        self.assertEqual(kind((point(3, 1), 3, -1, (1, 1))), ("on", point(2, -2)))
        self.assertEqual(kind((((1, LONG), (0, 1)), 0, 1, (1, 1))), ("on", ((1, LONG), (0, 1))))

    def test_smaller(self):
        self.assertEqual(kind((point(3, -1), 0, 1, (1, 2))), ("smaller", point(6, -2), (1, 2)))
        self.assertEqual(kind((MIDDLE, 0, 1, (1, 2))), ("smaller", MIDDLE, (1, 2)))
        self.assertEqual(kind((point(5, 0), 1, 1, (1, 2))), ("smaller", point(4, 2), (1, 16)))
        self.assertEqual(kind((point(3, 0), 2, 1, (1, 2))), ("smaller", point(2, 0), (1, 4)))
        self.assertEqual(kind((point(3, 3), 0, -1, (1, 2))), ("smaller", point(6, 2), (1, 4)))

    def test_the_middle_is_led_to_itself(self):
        chance = source("kind")
        sizes = [(1, 12), (1, 2), (3, 4), (11, 12), (LONG - 1, LONG)]
        for size in sizes:
            for frame in all_turns(some_point(chance), size) + all_turns(long_point(chance), size):
                word, middle, s = kind(frame)
                self.assertEqual(word, "smaller")
                self.assertTrue(is_point(middle))
                self.assertEqual(exact(s), exact(size) ** count(frame))
                self.assertEqual(led(frame, middle), middle)

    def test_by_the_plain_map(self):
        chance = source("kinds of size 1")
        for _ in range(20):
            for frame in all_turns(some_point(chance), (1, 1)):
                place = power(frame, count(frame))[0]
                self.assertEqual(kind(frame), ("round",) if place == MIDDLE else ("on", place))


class Interface(unittest.TestCase):
    def test_arguments(self):
        self.assertEqual(names_of(power), ["frame", "n"])
        self.assertEqual(names_of(count), ["frame"])
        self.assertEqual(names_of(kind), ["frame"])


if __name__ == "__main__":
    unittest.main()
