"""What rows draw, their move, and drawings [19] to [21]."""

import copy
import unittest
from fractions import Fraction

from arcmill.errors import TooMuch
from arcmill.frames import behind, first, led, led_piece, undone
from arcmill.going import drawn, move
from arcmill.movers import power
from tests.helpers import exact_point, is_frame, is_piece, is_whole, names_of, point, source
from tests.rows import DOT, GO, LEFT, MIRROR, RIGHT, ROUND, Pen, again, ever, keep, row, some_rows

MIDDLE = point(0, 0)


def arc(c, p, q):
    return ("arc", point(*c), point(*p), point(*q))


def stretch(p, q):
    return ("stretch", *sorted((point(*p), point(*q)), key=exact_point))


# What each row draws in the first frame, and the frame to which it leads.
BY_HAND = [
    (row("go", 3), stretch((0, 0), (3, 0)), (point(3, 0), 0, 1, (1, 1))),
    (row("go", Fraction(-5, 2)), stretch((Fraction(-5, 2), 0), (0, 0)), (point(Fraction(-5, 2), 0), 0, 1, (1, 1))),
    (row("go", 0), ("dot", MIDDLE), first()),
    (row("skip", 3), None, (point(3, 0), 0, 1, (1, 1))),
    (row("skip", -3), None, (point(-3, 0), 0, 1, (1, 1))),
    (row("skip", 0), None, first()),
    (row("side", 3, -4), stretch((0, 0), (3, -4)), (point(3, -4), 0, 1, (1, 1))),
    (row("side", 0, 2), stretch((0, 0), (0, 2)), (point(0, 2), 0, 1, (1, 1))),
    (row("side", 0, 0), ("dot", MIDDLE), first()),
    (DOT, ("dot", MIDDLE), first()),
    (LEFT, None, (MIDDLE, 1, 1, (1, 1))),
    (RIGHT, None, (MIDDLE, 3, 1, (1, 1))),
    (ROUND, None, (MIDDLE, 2, 1, (1, 1))),
    (MIRROR, None, (MIDDLE, 0, -1, (1, 1))),
    (row("grow", Fraction(7, 12)), None, (MIDDLE, 0, 1, (7, 12))),
    (row("quarter", 2), arc((0, 2), (0, 0), (2, 2)), (point(2, 2), 1, 1, (1, 1))),
    (row("quarter", -2), arc((0, -2), (2, -2), (0, 0)), (point(2, -2), 3, 1, (1, 1))),
    (row("half", 2), arc((0, 2), (0, 0), (0, 4)), (point(0, 4), 2, 1, (1, 1))),
    (row("half", -2), arc((0, -2), (0, -4), (0, 0)), (point(0, -4), 2, 1, (1, 1))),
    (row("arc", 3, 4, 6, 8), arc((3, 4), (0, 0), (6, 8)), (point(6, 8), 0, 1, (1, 1))),
    (row("arc", 3, 4, 8, 4), arc((3, 4), (0, 0), (8, 4)), (point(8, 4), 0, 1, (1, 1))),
    (row("arc", -3, 4, 0, 0), ("ring", point(-3, 4), MIDDLE), first()),
]

# Rows that lead the pen to other frames, with these frames.
FRAMES = [
    ((), first()),
    ((LEFT,), (MIDDLE, 1, 1, (1, 1))),
    ((row("skip", 5), ROUND), (point(5, 0), 2, 1, (1, 1))),
    ((MIRROR,), (MIDDLE, 0, -1, (1, 1))),
    ((row("grow", 3), row("skip", 2)), (point(6, 0), 0, 1, (3, 1))),
    ((RIGHT, MIRROR, row("skip", 2), row("grow", Fraction(1, 2)), LEFT), (point(0, -2), 2, -1, (1, 2))),
]


class Rows(unittest.TestCase):
    def test_in_the_first_frame(self):
        for each, piece, frame in BY_HAND:
            self.assertEqual(drawn((each,)), ([] if piece is None else [(piece, 0, ())], []), each)
            self.assertEqual(move((each,)), frame, each)

    def test_in_other_frames(self):
        for ahead, frame in FRAMES:
            self.assertEqual(move(ahead), frame)
            for each, piece, step in BY_HAND:
                still = drawn(ahead + (each,))[0]
                wanted = [] if piece is None else [(led_piece(frame, piece), len(ahead), ())]
                self.assertEqual(still, wanted, (ahead, each))
                self.assertEqual(move(ahead + (each,)), behind(frame, step))

    def test_mirrored_arcs_change_their_ends(self):
        self.assertEqual(drawn((MIRROR, row("quarter", 2)))[0], [(arc((0, -2), (2, -2), (0, 0)), 1, ())])
        self.assertEqual(drawn((MIRROR, row("half", -1)))[0], [(arc((0, 1), (0, 0), (0, 2)), 1, ())])
        self.assertEqual(drawn((MIRROR, row("arc", 3, 4, 8, 4)))[0], [(arc((3, -4), (8, -4), (0, 0)), 1, ())])

    def test_a_square_and_a_ring_of_quarters(self):
        rows = again(4, row("go", 2), LEFT)
        self.assertEqual([piece for piece, _, _ in drawn((rows,))[0]],
                         [stretch((0, 0), (2, 0)), stretch((2, 0), (2, 2)), stretch((0, 2), (2, 2)), stretch((0, 0), (0, 2))])
        bends = drawn((again(4, row("quarter", 1)),))[0]
        self.assertEqual([piece for piece, _, _ in bends],
                         [arc((0, 1), (0, 0), (1, 1)), arc((0, 1), (1, 1), (0, 2)), arc((0, 1), (0, 2), (-1, 1)),
                          arc((0, 1), (-1, 1), (0, 0))])


class Blocks(unittest.TestCase):
    def test_again(self):
        self.assertEqual(drawn((again(0, GO),)), ([], []))
        self.assertEqual(drawn((again(1, GO),)), ([(stretch((0, 0), (1, 0)), 1, (0,))], []))
        self.assertEqual(drawn((again(3, GO), DOT))[0],
                         [(stretch((k, 0), (k + 1, 0)), 1, (k,)) for k in range(3)] + [(("dot", point(3, 0)), 3, ())])
        self.assertEqual(drawn((again(3),)), ([], []))

    def test_again_within_again(self):
        program = (DOT, again(2, again(2, GO), LEFT, DOT), DOT)
        told = drawn(program)[0]
        self.assertEqual([each[1:] for each in told], [(0, ()), (3, (0, 0)), (3, (0, 1)), (6, (0,)), (3, (1, 0)),
                                                       (3, (1, 1)), (6, (1,)), (8, ())])
        self.assertEqual(told[4][0], stretch((2, 0), (2, 1)))
        self.assertEqual(told[7][0], ("dot", point(2, 2)))

    def test_keep(self):
        program = (GO, keep(LEFT, row("grow", 2), GO), GO)
        self.assertEqual(drawn(program), ([(stretch((0, 0), (1, 0)), 0, ()), (stretch((1, 0), (1, 2)), 4, ()),
                                           (stretch((1, 0), (2, 0)), 6, ())], []))
        program = (again(2, keep(GO, again(2, DOT, GO)), LEFT),)
        self.assertEqual([each[1:] for each in drawn(program)[0]],
                         [(2, (0,)), (4, (0, 0)), (5, (0, 0)), (4, (0, 1)), (5, (0, 1)),
                          (2, (1,)), (4, (1, 0)), (5, (1, 0)), (4, (1, 1)), (5, (1, 1))])
        self.assertEqual(move(program), (MIDDLE, 2, 1, (1, 1)))

    def test_ever(self):
        program = (row("skip", 3), LEFT, ever(GO, DOT, row("grow", Fraction(1, 2))), GO)
        still, ends = drawn(program)
        self.assertEqual(still, [(stretch((3, 0), (3, 1)), 7, ())])
        self.assertEqual(ends, [((point(Fraction(3, 2), 1), 0, 1, (1, 2)), 2, (),
                                 [(stretch((3, 0), (3, 1)), 3, ()), (("dot", point(3, 1)), 4, ())])])
        self.assertEqual(move(program), (point(3, 1), 1, 1, (1, 1)))

    def test_ever_within_again_and_keep(self):
        program = (again(2, keep(row("skip", 5), again(2, ever(again(2, GO), DOT), LEFT)), row("skip", 10)), DOT)
        still, ends = drawn(program)
        self.assertEqual(still, [(("dot", point(20, 0)), 15, ())])
        self.assertEqual([end[1:3] for end in ends], [(4, (0, 0)), (4, (0, 1)), (4, (1, 0)), (4, (1, 1))])
        for end in ends:
            self.assertEqual([each[1:] for each in end[3]], [(6, (0,)), (6, (1,)), (8, ())])
        self.assertEqual([end[0] for end in ends], [(point(2, 0), 0, 1, (1, 1)), (point(0, 2), 0, 1, (1, 1))] * 2)
        self.assertEqual(ends[3][3][2][0], ("dot", point(15, 2)))

    def test_the_map_leads_round_by_round(self):
        rows = (row("quarter", 2), MIRROR, row("grow", Fraction(2, 3)), row("side", 1, 3), DOT)
        ahead = (row("skip", 3), MIRROR, RIGHT, row("grow", 2))
        _, ends = drawn(ahead + (ever(*rows),))
        frame, number, rounds, pieces = ends[0]
        start = move(ahead)
        self.assertEqual(frame, behind(behind(start, move(rows)), undone(start)))
        turns = drawn(ahead + (again(4, *rows),))[0]
        for n in range(4):
            self.assertEqual([each[0] for each in turns if each[2] == (n,)],
                             [led_piece(power(frame, n), each[0]) for each in pieces])

    def test_nothing(self):
        self.assertEqual(drawn(()), ([], []))
        self.assertEqual(move(()), first())


class AnyRows(unittest.TestCase):
    def test_by_another_pen(self):
        chance = source("going")
        met = 0
        for _ in range(150):
            program = some_rows(chance, 3, False)
            pen = Pen()
            pen.go(program)
            if pen.done > 300:
                self.assertRaises(TooMuch, drawn, program)
                continue
            still, ends = drawn(program)
            self.assertEqual(still, pen.still)
            self.assertTrue(all(is_piece(each[0]) and is_whole(each[1]) for each in still))
            self.assertEqual([end[1:] for end in ends], [end[2:] for end in pen.ends])
            for end, wanted in zip(ends, pen.ends):
                met += 1
                self.assertTrue(is_frame(end[0]))
                self.look_at_map(end[0], wanted[0], wanted[1])
            self.look_at_map(move(program), Pen().frame(), pen.frame())
        self.assertGreater(met, 30)

    def look_at_map(self, frame, start, stop):
        """The map leads three points of the frame at the beginning to those of the frame at the end."""
        for u, v in ((0, 0), (1, 0), (0, 1)):
            points = []
            for x, y, ahead, beside in (start, stop):
                points.append(point(x + u * ahead[0] + v * beside[0], y + u * ahead[1] + v * beside[1]))
            self.assertEqual(led(frame, points[0]), points[1])


class TooManyRows(unittest.TestCase):
    def test_just_three_hundred_and_one_more(self):
        hundred = again(10, again(10, LEFT))
        self.assertEqual(drawn((hundred, hundred, hundred)), ([], []))
        with self.assertRaises(TooMuch):
            drawn((hundred, hundred, hundred, LEFT))
        self.assertEqual(len(drawn((again(12, again(5, *[GO] * 5)),))[0]), 300)
        with self.assertRaises(TooMuch):
            drawn((again(12, again(5, *[GO] * 5)), DOT))
        with self.assertRaises(TooMuch):
            drawn((again(7, again(7, again(7, DOT))),))

    def test_blocks_themselves_are_not_counted(self):
        empty = again(12, again(12, again(12, again(12))))
        self.assertEqual(drawn((empty, keep(), again(0, *[GO] * 50))), ([], []))
        self.assertEqual(len(drawn((again(12, keep(again(5, keep(*[GO] * 5)))),))[0]), 300)

    def test_rows_of_an_ever_count_once_each_time(self):
        program = (again(12, ever(again(5, *[GO] * 5))),)
        self.assertEqual([len(end[3]) for end in drawn(program)[1]], [25] * 12)
        with self.assertRaises(TooMuch):
            drawn(program + (LEFT,))


class Kept(unittest.TestCase):
    def test_many_figures(self):
        rows = [row("side", Fraction(999999, 999983 - k), Fraction(-k, 999979)) for k in range(12)]
        program = (again(10, row("grow", Fraction(11, 12)), *rows, row("quarter", Fraction(-999983, 999979))),)
        pen = Pen()
        pen.go(program)
        self.assertEqual(drawn(program)[0], pen.still)

    def test_nothing_kept(self):
        program = (GO, ever(GO, again(2, DOT)), keep(DOT))
        told = drawn(program)
        same = copy.deepcopy(told)
        told[0].clear()
        told[1][0][3].clear()
        told[1].clear()
        self.assertEqual(drawn(program), same)
        self.assertIs(type(same[0]), list)
        self.assertIs(type(same[1]), list)
        self.assertIs(type(same[1][0][3]), list)

    def test_arguments(self):
        self.assertEqual(names_of(move), ["rows"])
        self.assertEqual(names_of(drawn), ["program"])


if __name__ == "__main__":
    unittest.main()
