"""Programs changed at a number, and the row of a number [46]."""

import unittest
from fractions import Fraction

from arcmill.changes import changed, row_at
from arcmill.errors import NoRow, TooMuch
from arcmill.programs import program_of
from arcmill.texts import written
from tests.helpers import LONG, names_of, source
from tests.rows import DOT, GO, LEFT, again, ever, keep, row, some_program

ROUND, RIGHT = ("round",), ("right",)

# Numbers: 0 go, 1 again, 2 left, 3 keep, 4 dot, 5 end, 6 end, 7 ever, 8 dot, 9 go, 10 end, 11 round; 12 is behind all.
PROGRAM = (GO, again(2, LEFT, keep(DOT)), ever(DOT, GO), ROUND)


class Look(unittest.TestCase):
    def no_row(self, number, deed, *handed):
        with self.assertRaises(NoRow) as caught:
            deed(*handed)
        self.assertEqual(caught.exception.row, number, handed)


class Changed(Look):
    def test_in_the_place_of_a_row(self):
        self.assertEqual(changed(PROGRAM, 0, (RIGHT,)), (RIGHT,) + PROGRAM[1:])
        self.assertEqual(changed(PROGRAM, 2, (RIGHT, RIGHT)), (GO, again(2, RIGHT, RIGHT, keep(DOT))) + PROGRAM[2:])
        self.assertEqual(changed(PROGRAM, 4, ()), (GO, again(2, LEFT, keep())) + PROGRAM[2:])
        self.assertEqual(changed(PROGRAM, 8, (keep(LEFT),)), PROGRAM[:2] + (ever(keep(LEFT), GO), ROUND))
        self.assertEqual(changed(PROGRAM, 9, (DOT,)), PROGRAM[:2] + (ever(DOT, DOT), ROUND))
        self.assertEqual(changed(PROGRAM, 11, ()), PROGRAM[:3])

    def test_in_the_place_of_a_block(self):
        self.assertEqual(changed(PROGRAM, 1, (RIGHT,)), (GO, RIGHT) + PROGRAM[2:])
        self.assertEqual(changed(PROGRAM, 1, ()), (GO,) + PROGRAM[2:])
        self.assertEqual(changed(PROGRAM, 3, (RIGHT, LEFT)), (GO, again(2, LEFT, RIGHT, LEFT)) + PROGRAM[2:])
        self.assertEqual(changed(PROGRAM, 7, (keep(ever(DOT)), DOT)), PROGRAM[:2] + (keep(ever(DOT)), DOT, ROUND))

    def test_at_the_end_of_a_block(self):
        self.assertEqual(changed(PROGRAM, 5, (RIGHT,)), (GO, again(2, LEFT, keep(DOT, RIGHT))) + PROGRAM[2:])
        self.assertEqual(changed(PROGRAM, 6, (RIGHT, GO)), (GO, again(2, LEFT, keep(DOT), RIGHT, GO)) + PROGRAM[2:])
        self.assertEqual(changed(PROGRAM, 10, (LEFT,)), PROGRAM[:2] + (ever(DOT, GO, LEFT), ROUND))
        self.assertEqual(changed(PROGRAM, 6, ()), PROGRAM)
        self.assertEqual(changed((keep(),), 1, (DOT,)), (keep(DOT),))

    def test_behind_all(self):
        self.assertEqual(changed(PROGRAM, 12, (RIGHT, DOT)), PROGRAM + (RIGHT, DOT))
        self.assertEqual(changed(PROGRAM, 12, ()), PROGRAM)
        self.assertEqual(changed((), 0, PROGRAM), PROGRAM)
        self.assertEqual(changed((), 0, ()), ())
        self.assertEqual(changed((keep(),), 2, (DOT,)), (keep(), DOT))

    def test_no_such_number(self):
        for number in (-1, 13, 14, -12, LONG, -LONG):
            self.no_row(number, changed, PROGRAM, number, (DOT,))
            self.no_row(number, changed, PROGRAM, number, ())
            # That goes first.
            self.no_row(number, changed, PROGRAM, number, ("none",))
            self.no_row(number, changed, PROGRAM, number, (DOT,) * 61)
        self.no_row(1, changed, (), 1, (DOT,))
        self.no_row(-1, changed, (), -1, ())

    def test_what_comes_is_no_program(self):
        self.no_row(2, changed, PROGRAM, 0, (DOT, DOT, "none"))
        self.no_row(4, changed, PROGRAM, 4, (("go", 1),))
        self.no_row(6, changed, PROGRAM, 4, (DOT, DOT, True))
        self.no_row(13, changed, PROGRAM, 12, (DOT, ()))
        # An ever in an ever, the fifth block, an ever that can't go on.
        self.no_row(8, changed, PROGRAM, 8, (ever(DOT),))
        self.no_row(10, changed, PROGRAM, 10, (ever(DOT),))
        self.no_row(7, changed, PROGRAM, 5, (keep(keep(keep())),))
        self.no_row(7, changed, (keep(keep(keep(keep(), keep()))),), 6, (DOT, keep(keep())))
        self.no_row(7, changed, PROGRAM, 10, (row("grow", 2),))
        self.no_row(7, changed, changed(PROGRAM, 9, ()), 8, (LEFT,))
        self.no_row(7, changed, changed(PROGRAM, 9, ()), 8, ())

    def test_the_numbers_are_those_of_what_comes(self):
        # Three rows more ahead: the ever, at 7 before, is told as 10.
        rows = (DOT, keep(DOT), GO)
        self.assertEqual(changed(PROGRAM, 0, rows), rows + PROGRAM[1:])
        self.no_row(4, changed, PROGRAM, 0, rows[:2] + (0,))
        self.no_row(8, changed, PROGRAM, 1, (keep(keep(keep(DOT))), 5))
        self.no_row(1, changed, PROGRAM, 1, (("again", 13, ()), "none"))

    def test_too_many_rows(self):
        forty = (again(2, *[DOT] * 39),)
        self.assertEqual(changed(forty, 40, (DOT,) * 20), (again(2, *[DOT] * 59),))
        self.assertRaises(TooMuch, changed, forty, 40, (DOT,) * 21)
        self.assertRaises(TooMuch, changed, forty, 41, (DOT,) * 21)
        self.assertEqual(changed(forty, 0, (DOT,) * 60), (DOT,) * 60)
        self.assertEqual(len(changed(forty, 1, (DOT,) * 21)[0][2]), 59)
        self.assertRaises(TooMuch, changed, forty, 1, (DOT,) * 22)
        self.no_row(81, changed, forty, 41, (DOT,) * 40 + ((),))

    def test_a_program_that_does_many_rows(self):
        many = (again(12, again(12, again(12, DOT))),)
        self.assertEqual(changed(many, 3, (GO, GO)), (again(12, again(12, again(12, GO, GO))),))
        self.assertEqual(changed((DOT,), 1, many), (DOT,) + many)
        self.assertEqual(row_at(many, 2), again(12, DOT))


class RowAt(Look):
    def test_rows(self):
        wanted = [GO, PROGRAM[1], LEFT, keep(DOT), DOT, None, None, PROGRAM[2], DOT, GO, None, ROUND]
        self.assertEqual([row_at(PROGRAM, number) for number in range(12)], wanted)
        self.assertIsNone(row_at((keep(),), 1))

    def test_no_such_number(self):
        for number in (-1, 12, 13, LONG, -LONG):
            self.no_row(number, row_at, PROGRAM, number)
        self.no_row(0, row_at, (), 0)
        self.no_row(-1, row_at, (), -1)

    def test_many_figures(self):
        program = (row("go", Fraction(LONG, LONG - 1)),)
        self.assertEqual(row_at(program, 0), program[0])
        self.assertEqual(changed(program, 1, program), program * 2)


class Any(Look):
    def test_by_the_lines_of_the_text(self):
        chance = source("changes")
        for _ in range(60):
            program = program_of(some_program(chance, 3))
            lines = written(program).split("\n")
            for number, line in enumerate(lines):
                told = row_at(program, number)
                last = number
                if told is None:
                    self.assertEqual(line, "end")
                    last = number - 1
                else:
                    own = written((told,)).split("\n")
                    self.assertEqual(own, lines[number:number + len(own)])
                    last = number + len(own) - 1
                try:
                    other = changed(program, number, (keep(LEFT), DOT))
                except (NoRow, TooMuch):
                    continue
                wanted = lines[:number] + ["keep", "left", "end", "dot"] + lines[last + 1:]
                self.assertEqual(written(other).split("\n"), wanted)

    def test_arguments(self):
        self.assertEqual(names_of(changed), ["program", "number", "rows"])
        self.assertEqual(names_of(row_at), ["program", "number"])


if __name__ == "__main__":
    unittest.main()
