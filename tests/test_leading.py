"""Programs led by a frame [45]."""

import unittest
from fractions import Fraction

from arcmill.errors import NoNumber, TooMuch
from arcmill.frames import behind, first, led_piece, undone
from arcmill.going import drawn, move
from arcmill.leading import led_by
from arcmill.programs import program_of
from tests.helpers import LONG, fraction, names_of, point, source
from tests.rows import DOT, GO, LEFT, MIRROR, RIGHT, ROUND, again, ever, row, some_program


def skip(number):
    return row("skip", number)


class Led(unittest.TestCase):
    def test_rows_ahead(self):
        for frame, rows in ((first(), ()),
                            ((point(3, 0), 0, 1, (1, 1)), (skip(3),)),
                            ((point(0, -2), 0, 1, (1, 1)), (LEFT, skip(-2), RIGHT)),
                            ((point(Fraction(1, 2), 7), 0, 1, (1, 1)), (skip(Fraction(1, 2)), LEFT, skip(7), RIGHT)),
                            ((point(0, 0), 1, 1, (1, 1)), (LEFT,)),
                            ((point(0, 0), 2, 1, (1, 1)), (ROUND,)),
                            ((point(0, 0), 3, 1, (1, 1)), (RIGHT,)),
                            ((point(0, 0), 0, -1, (1, 1)), (MIRROR,)),
                            ((point(0, 0), 0, 1, (7, 12)), (row("grow", Fraction(7, 12)),)),
                            ((point(0, 4), 1, 1, (1, 1)), (LEFT, skip(4), RIGHT, LEFT)),
                            ((point(-1, 4), 3, -1, (12, 1)), (skip(-1), LEFT, skip(4), RIGHT, RIGHT, MIRROR, row("grow", 12)))):
            self.assertEqual(led_by((), frame), rows)
            self.assertEqual(led_by((GO, again(2, DOT)), frame), rows + (GO, again(2, DOT)))
            self.assertEqual(move(rows), frame)

    def test_no_grow_has_the_size(self):
        for size in ((13, 1), (1, 13), (13, 12), (12, 13), (25, 24), (144, 1), (LONG, LONG - 1)):
            self.assertRaises(NoNumber, led_by, (GO,), (point(0, 0), 0, 1, size))
            # That goes ahead of too many rows.
            self.assertRaises(NoNumber, led_by, (GO,) * 60, (point(1, 1), 1, 1, size))
        for size in ((12, 1), (1, 12), (11, 12), (12, 11), (1, 1)):
            self.assertEqual(led_by((GO,), (point(0, 0), 0, 1, size))[-1], GO)

    def test_just_sixty_and_one_more(self):
        frame = (point(1, 2), 3, -1, (1, 2))
        self.assertEqual(len(led_by((GO,) * 53, frame)), 60)
        self.assertRaises(TooMuch, led_by, (GO,) * 54, frame)
        self.assertEqual(len(led_by((again(2, *[GO] * 52),), frame)), 8)
        self.assertRaises(TooMuch, led_by, (again(2, *[GO] * 53),), frame)
        self.assertEqual(len(led_by((GO,) * 60, first())), 60)
        self.assertRaises(TooMuch, led_by, (GO,) * 60, (point(0, 0), 2, 1, (1, 1)))

    def test_what_is_drawn(self):
        chance = source("leading")
        for _ in range(150):
            program = program_of(some_program(chance))
            place = point(Fraction(chance.randint(-3, 3), chance.randint(1, 3)), chance.randint(-2, 2))
            frame = (place, chance.randint(0, 3), chance.choice((1, -1)), fraction(chance.randint(1, 12), chance.randint(1, 12)))
            try:
                told = led_by(program, frame)
                still, ends = drawn(told)
            except TooMuch:
                continue
            self.assertEqual(program_of(told), told)
            own_still, own_ends = drawn(program)
            self.assertEqual([each[0] for each in still], [led_piece(frame, each[0]) for each in own_still])
            self.assertEqual(len(ends), len(own_ends))
            for end, own in zip(ends, own_ends):
                self.assertEqual(end[0], behind(behind(frame, own[0]), undone(frame)))
                self.assertEqual([each[0] for each in end[3]], [led_piece(frame, each[0]) for each in own[3]])

    def test_many_figures(self):
        x, y = Fraction(LONG, LONG - 1), Fraction(-LONG, 2)
        told = led_by((DOT, ever(GO)), (point(x, y), 0, 1, (1, 1)))
        self.assertEqual(told, (skip(x), LEFT, skip(y), RIGHT, DOT, ever(GO)))
        self.assertEqual(drawn(told)[0][0][0], ("dot", point(x, y)))

    def test_arguments(self):
        self.assertEqual(names_of(led_by), ["program", "frame"])


if __name__ == "__main__":
    unittest.main()
