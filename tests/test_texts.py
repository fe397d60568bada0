"""Programs written as texts, and texts read [17]."""

import unittest
from fractions import Fraction

from arcmill.errors import NoRow, NoText, TooMuch
from arcmill.programs import program_of
from arcmill.texts import read, written
from tests.helpers import LONG, names_of, source
from tests.rows import DOT, GO, LEFT, again, ever, keep, row, rows_of, some_program

BY_HAND = [
    ((), ""),
    ((DOT,), "dot"),
    ((row("go", 3), row("skip", -3), row("side", 0, Fraction(-1, 2))), "go 3\nskip -3\nside 0 -1/2"),
    ((LEFT, ("right",), ("round",), ("mirror",)), "left\nright\nround\nmirror"),
    ((row("grow", Fraction(12, 11)), row("quarter", Fraction(-7, 2)), row("half", 10)), "grow 12/11\nquarter -7/2\nhalf 10"),
    ((row("arc", 3, 4, 6, 8), row("arc", 0, Fraction(1, 2), 0, 0)), "arc 3 4 6 8\narc 0 1/2 0 0"),
    ((again(0),), "again 0\nend"),
    ((keep(), ever(DOT)), "keep\nend\never\ndot\nend"),
    ((again(12, keep(GO, LEFT), again(2, DOT)), DOT), "again 12\nkeep\ngo 1\nleft\nend\nagain 2\ndot\nend\nend\ndot"),
    ((keep(again(2, keep(ever(DOT), DOT))),), "keep\nagain 2\nkeep\never\ndot\nend\ndot\nend\nend\nend"),
]

# Lines that are not written so; each stands alone and among others.
NO_LINES = ["", " ", "go", "go ", " go 1", "go 1 ", "go  1", "go 1 2", "dot 1", "dot ", "Dot", "DOT", "dots", "do", "go1", "left 0",
            "side 1", "side 1 2 3", "side 1  2", "arc 3 4 6", "arc 3 4 6 8 0", "again", "again ", "again 1 2", "again  2", "again x",
            "keep 1", "keep ", "ever 2", " ever", "up", "1", "-", "/", ";", "dot;", "dot ; dot",
            "go 01", "go 00", "go -0", "go -01", "go +1", "go 1/+2", "go --1", "go 1-", "go -", "go a", "go 1a", "go 1.5", "go 1_0",
            "go 2/4", "go 3/1", "go 0/1", "go 0/2", "go 1/0", "go 0/0", "go 1/-2", "go -1/-2", "go 1/02", "go 01/2", "go -0/2",
            "go 1/", "go /2", "go /", "go 1//2", "go 1/2/3", "go 1 /2", "go 1/ 2", "side 1 2/2", "side 2/2 1", "grow 12/12",
            "grow 6/12", "quarter 2/2", "arc 3 4 6 16/2", "go (1,2)", "go 1,2", "go 0x1", "go 1e3", "go 1L",
            "again 01", "again -0", "again +1", "again 1/2", "again 2/1", "again 3/", "again 1.0"]

# Lines of the right form, whose rows are none.
NO_ROWS = ["grow 13", "grow 1/13", "grow 13/12", "grow 0", "grow -1", "quarter 0", "half 0", "arc 0 0 0 0", "arc 3 4 6 7", "arc 0 0 1 1",
           "again 13\nend", "again -1\nend", "again 999999\ndot\nend", "ever\nend", "ever\nleft\nend", "ever\ndot\ngrow 4/5\nend",
           "ever\ndot\ngrow 2\nend", "ever\nagain 0\ndot\nend\nend"]


class Look(unittest.TestCase):
    def no_text(self, number, text):
        with self.assertRaises(NoText) as caught:
            read(text)
        self.assertEqual(caught.exception.line, number, text)
        self.assertIs(type(caught.exception.line), int)

    def no_row(self, number, text):
        with self.assertRaises(NoRow) as caught:
            read(text)
        self.assertEqual(caught.exception.row, number, text)


class Written(Look):
    def test_by_hand(self):
        for program, text in BY_HAND:
            self.assertEqual(written(program), text)
            self.assertEqual(read(text), program)
            self.assertIs(type(read(text)), tuple)

    def test_many_figures(self):
        program = (row("go", LONG), row("skip", Fraction(-LONG, LONG - 1)), row("arc", 0, LONG, LONG, LONG))
        text = f"go {LONG}\nskip -{LONG}/{LONG - 1}\narc 0 {LONG} {LONG} {LONG}"
        self.assertEqual(written(program), text)
        self.assertEqual(read(text), program)

    def test_a_program_that_does_many_rows(self):
        program = (again(12, again(12, again(12, again(12, *[GO] * 5)))), ever(DOT))
        self.assertEqual(read(written(program)), program)

    def test_any(self):
        chance = source("texts")
        for _ in range(200):
            program = program_of(some_program(chance, 3))
            text = written(program)
            self.assertEqual(read(text), program)
            self.assertEqual(text.split("\n"), self.lines(program))

    def lines(self, rows):
        """The lines of rows, told without the help of the program."""
        told = []
        for each in rows:
            if each[0] == "again":
                told += [f"again {each[1]}"]
            else:
                told += [" ".join([each[0], *[str(Fraction(*number)) for number in each[1:]]]) if rows_of(each) is None else each[0]]
            if rows_of(each) is not None:
                told += self.lines(each[-1]) + ["end"]
        return told


class Read(Look):
    def test_lines_not_written_so(self):
        for text in NO_LINES:
            if text != "":
                self.no_text(0, text)
            self.no_text(1, "dot\n" + text)
            self.no_text(2, "keep\ndot\n" + text + "\nend\nno")
            self.no_text(0, text + "\ndot")

    def test_line_ends(self):
        self.no_text(0, "\n")
        self.no_text(0, "\ndot")
        self.no_text(1, "dot\n")
        self.no_text(1, "dot\n\ndot")
        self.no_text(3, "keep\ndot\nend\n")
        self.no_text(0, " ")

    def test_ends(self):
        self.no_text(0, "end")
        self.no_text(1, "dot\nend\ndot")
        self.no_text(3, "keep\ndot\nend\nend\nno")
        self.no_text(2, "keep\nend\nend 1")
        self.no_text(1, "keep\nend \nend")
        self.no_text(1, "keep\nEnd")

    def test_a_block_without_its_end(self):
        self.no_text(1, "keep")
        self.no_text(2, "ever\ndot")
        self.no_text(4, "again 2\nkeep\ndot\nend")
        self.no_text(1, "keep\n")
        self.no_text(1, "keep\nno")
        self.no_text(3, "dot\nkeep\nagain 2")

    def test_blocks_as_deep_as_there_is_room(self):
        self.no_text(999, "\n".join(["keep"] * 999))
        self.no_row(4, "\n".join(["keep"] * 500 + ["end"] * 500))
        self.no_text(1000, "\n".join(["keep"] * 500 + ["end"] * 501))
        self.no_row(4, "\n".join(["ever", "keep", "keep", "keep"] + ["again 2"] * 300 + ["dot"] + ["end"] * 304))

    def test_rows_that_are_none(self):
        for text in NO_ROWS:
            self.no_row(0, text)
            self.no_row(1, "dot\n" + text)
            self.no_row(4, "keep\ndot\nend\nkeep\n" + text + "\nend")
            # A line that isn't written so goes first, wherever it stands.
            self.no_text(len(text.split("\n")), text + "\nno")
            self.no_text(len(text.split("\n")) + 2, text + "\nkeep\ndot")

    def test_too_many_rows(self):
        self.assertEqual(read("\n".join(["dot"] * 60)), (DOT,) * 60)
        self.assertRaises(TooMuch, read, "\n".join(["dot"] * 61))
        self.assertEqual(len(read("\n".join(["keep", "end"] * 60))), 60)
        self.assertRaises(TooMuch, read, "\n".join(["keep", "end"] * 61))
        self.assertRaises(TooMuch, read, "\n".join(["dot"] * 1200))
        self.no_row(61, "\n".join(["dot"] * 61 + ["half 0"]))
        self.no_text(61, "\n".join(["dot"] * 61 + ["half"]))

    def test_arguments(self):
        self.assertEqual(names_of(read), ["text"])
        self.assertEqual(names_of(written), ["program"])


if __name__ == "__main__":
    unittest.main()
