"""Frames [18]."""

import unittest

from arcmill.arcs import on
from arcmill.frames import behind, first, led, led_piece, undone
from tests.helpers import (LONG, exact, exact_point, is_frame, is_point, long_point, names_of, point, some_frame,
                           some_point, source, spot)

FIRST = (((0, 1), (0, 1)), 0, 1, (1, 1))
MIDDLE = point(0, 0)

# Where (u, v) goes by each of the turns, with hand 1 and with hand -1.
GOES = {
    (0, 1): lambda u, v: (u, v),
    (1, 1): lambda u, v: (-v, u),
    (2, 1): lambda u, v: (-u, -v),
    (3, 1): lambda u, v: (v, -u),
    (0, -1): lambda u, v: (u, -v),
    (1, -1): lambda u, v: (v, u),
    (2, -1): lambda u, v: (-u, v),
    (3, -1): lambda u, v: (-v, -u),
}


def some_frames():
    chance = source("frames")
    told = [(point(3, -2), turns, hand, (2, 3)) for turns in range(4) for hand in (1, -1)]
    told += [some_frame(chance) for _ in range(20)]
    told += [some_frame(chance, long=True) for _ in range(4)]
    return told + [FIRST]


class Led(unittest.TestCase):
    def test_by_hand(self):
        frame = (point(10, 20), 1, -1, (1, 2))
        self.assertEqual(led(frame, point(4, 6)), point(13, 22))
        self.assertEqual(led((point(10, 20), 1, 1, (1, 2)), point(4, 6)), point(7, 22))
        self.assertEqual(led((point(0, 0), 3, 1, (1, 1)), point(1, 0)), point(0, -1))

    def test_the_first_frame(self):
        self.assertEqual(first(), FIRST)
        self.assertTrue(is_frame(first()))
        chance = source("first")
        for _ in range(20):
            p = some_point(chance)
            self.assertEqual(led(first(), p), p)

    def test_each_of_the_turns_with_each_hand(self):
        chance = source("led")
        for frame in some_frames():
            (x, y), size = exact_point(frame[0]), exact(frame[3])
            for p in [some_point(chance) for _ in range(5)] + [long_point(chance)]:
                u, v = GOES[frame[1:3]](*exact_point(p))
                told = led(frame, p)
                self.assertEqual(told, point(x + size * u, y + size * v))
                self.assertTrue(is_point(told))

    def test_many_figures(self):
        frame = (((LONG, 1), (1, LONG)), 2, -1, (LONG, 1))
        self.assertEqual(led(frame, ((1, LONG), (LONG, 1))), point(LONG - 1, exact((1, LONG)) + LONG * LONG))


class Behind(unittest.TestCase):
    def test_by_hand(self):
        one, other = (point(1, 0), 1, -1, (2, 1)), (point(0, 5), 3, 1, (1, 3))
        self.assertEqual(behind(one, other), (point(11, 0), 2, -1, (2, 3)))
        self.assertEqual(behind(other, one), (((0, 1), (14, 3)), 0, -1, (2, 3)))

    def test_it_leads_to_where_the_one_leads_what_the_other_leads(self):
        chance = source("behind")
        for one in some_frames():
            for other in some_frames():
                told = behind(one, other)
                self.assertTrue(is_frame(told), told)
                for _ in range(2):
                    p = some_point(chance)
                    self.assertEqual(led(told, p), led(one, led(other, p)))

    def test_the_first_frame_changes_nothing(self):
        for frame in some_frames():
            self.assertEqual(behind(frame, first()), frame)
            self.assertEqual(behind(first(), frame), frame)


class Undone(unittest.TestCase):
    def test_by_hand(self):
        self.assertEqual(undone((point(4, 6), 1, 1, (2, 1))), (point(-3, 2), 3, 1, (1, 2)))
        self.assertEqual(undone((point(4, 6), 1, -1, (2, 1))), (point(-3, -2), 1, -1, (1, 2)))
        self.assertEqual(undone(first()), first())

    def test_it_leads_back(self):
        chance = source("undone")
        for frame in some_frames():
            told = undone(frame)
            self.assertTrue(is_frame(told), told)
            self.assertEqual(behind(told, frame), first())
            self.assertEqual(behind(frame, told), first())
            self.assertEqual(undone(told), frame)
            for p in (some_point(chance), long_point(chance)):
                self.assertEqual(led(told, led(frame, p)), p)


class LedPiece(unittest.TestCase):
    def test_dot(self):
        self.assertEqual(led_piece((point(1, 1), 1, 1, (2, 1)), ("dot", point(3, 4))), ("dot", point(-7, 7)))

    def test_a_stretch_has_its_first_point_before_its_second(self):
        way = ("stretch", point(0, 0), point(2, 1))
        self.assertEqual(led_piece(first(), way), way)
        self.assertEqual(led_piece((point(5, 5), 0, 1, (3, 1)), way), ("stretch", point(5, 5), point(11, 8)))
        self.assertEqual(led_piece((MIDDLE, 2, 1, (1, 1)), way), ("stretch", point(-2, -1), point(0, 0)))
        self.assertEqual(led_piece((MIDDLE, 1, 1, (1, 1)), way), ("stretch", point(-1, 2), point(0, 0)))
        self.assertEqual(led_piece((MIDDLE, 1, -1, (1, 1)), way), ("stretch", point(0, 0), point(1, 2)))
        level = ("stretch", point(0, 0), point(2, 0))
        self.assertEqual(led_piece((MIDDLE, 3, 1, (1, 1)), level), ("stretch", point(0, -2), point(0, 0)))

    def test_the_ends_of_an_arc(self):
        bow = ("arc", point(0, 0), point(1, 0), point(0, 1))
        self.assertEqual(led_piece((point(2, 2), 0, 1, (3, 1)), bow),
                         ("arc", point(2, 2), point(5, 2), point(2, 5)))
        self.assertEqual(led_piece((MIDDLE, 1, 1, (1, 1)), bow), ("arc", MIDDLE, point(0, 1), point(-1, 0)))
        self.assertEqual(led_piece((MIDDLE, 0, -1, (1, 1)), bow), ("arc", MIDDLE, point(0, -1), point(1, 0)))
        self.assertEqual(led_piece((MIDDLE, 1, -1, (1, 1)), bow), ("arc", MIDDLE, point(1, 0), point(0, 1)))
        self.assertEqual(led_piece((MIDDLE, 2, -1, (1, 1)), bow), ("arc", MIDDLE, point(0, 1), point(-1, 0)))

    def test_ring(self):
        ring = ("ring", point(1, 0), point(2, 0))
        self.assertEqual(led_piece((MIDDLE, 1, 1, (2, 1)), ring), ("ring", point(0, 2), point(0, 4)))
        self.assertEqual(led_piece((MIDDLE, 1, -1, (2, 1)), ring), ("ring", point(0, 2), point(0, 4)))
        self.assertEqual(led_piece((MIDDLE, 0, -1, (1, 1)), ("ring", MIDDLE, point(3, 4))),
                         ("ring", MIDDLE, point(3, -4)))

    def test_it_has_just_the_points_led(self):
        spots = [spot(quarter, share, (1, 2), 5) for quarter in range(4) for share in (0, exact((1, 3)))]
        c = point(1, 2)
        pieces = [("dot", spots[0]), ("ring", c, spots[1])]
        pieces += [("arc", c, p, q) for p in spots for q in spots if p != q]
        pieces += [("stretch", p, q) for p in spots for q in spots if exact_point(p) < exact_point(q)]
        for frame in some_frames():
            places = [(p, led(frame, p)) for p in spots]
            for piece in pieces[::3]:
                told = led_piece(frame, piece)
                self.assertEqual((told[0], len(told)), (piece[0], len(piece)))
                if told[0] == "stretch":
                    self.assertLess(exact_point(told[1]), exact_point(told[2]))
                for p, place in places:
                    self.assertEqual(on(told, place), on(piece, p))

    def test_behind_and_undone(self):
        bow = ("arc", point(0, 0), point(3, 4), point(-5, 0))
        frames = some_frames()
        for one, other in zip(frames, frames[1:]):
            self.assertEqual(led_piece(behind(one, other), bow), led_piece(one, led_piece(other, bow)))
            self.assertEqual(led_piece(undone(one), led_piece(one, bow)), bow)


class Interface(unittest.TestCase):
    def test_arguments(self):
        self.assertEqual(names_of(first), [])
        self.assertEqual(names_of(led), ["frame", "p"])
        self.assertEqual(names_of(behind), ["one", "other"])
        self.assertEqual(names_of(undone), ["frame"])
        self.assertEqual(names_of(led_piece), ["frame", "piece"])


if __name__ == "__main__":
    unittest.main()
