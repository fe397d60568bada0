"""Programs opened [43] and made shorter [44]."""

import unittest
from fractions import Fraction

from arcmill.errors import TooMuch
from arcmill.few import alike_pieces
from arcmill.going import drawn
from arcmill.programs import program_of
from arcmill.shorter import opened, shorter
from tests.helpers import LONG, exact, names_of, source
from tests.rows import (DOT, GO, LEFT, MIRROR, RIGHT, ROUND, again, done_by, ever, keep, mended, row, rows_in, rows_of, some_program,
                        some_row)

TURNS = (LEFT, RIGHT, ROUND)
MOVES = ("skip", "left", "right", "round", "mirror", "grow")


def skip(number):
    return row("skip", number)


def grow(top, bottom=1):
    return row("grow", Fraction(top, bottom))


def pieces_of(rows):
    return [each[0] for each in rows]


class Opened(unittest.TestCase):
    def same(self, program):
        """Opened, it draws the same pieces in the same order."""
        told = opened(program)
        self.assertEqual(program_of(told), told)
        self.assertFalse(self.has_again(told))
        (still, ends), (other_still, other_ends) = drawn(program), drawn(told)
        self.assertEqual(pieces_of(still), pieces_of(other_still))
        self.assertEqual([(end[0], pieces_of(end[3])) for end in ends], [(end[0], pieces_of(end[3])) for end in other_ends])
        return told

    def has_again(self, rows):
        return any(each[0] == "again" or rows_of(each) is not None and self.has_again(each[-1]) for each in rows)

    def test_by_hand(self):
        self.assertEqual(opened(()), ())
        self.assertEqual(opened((GO, LEFT)), (GO, LEFT))
        self.assertEqual(opened((DOT, again(3, GO, LEFT), DOT)), (DOT, GO, LEFT, GO, LEFT, GO, LEFT, DOT))
        self.assertEqual(opened((again(1, GO),)), (GO,))
        self.assertEqual(opened((again(0, GO), DOT, again(4))), (DOT,))
        self.assertEqual(opened((again(2, again(2, GO), LEFT),)), (GO, GO, LEFT, GO, GO, LEFT))

    def test_within_blocks(self):
        self.assertEqual(opened((keep(again(2, GO)),)), (keep(GO, GO),))
        self.assertEqual(opened((keep(again(0, GO)),)), (keep(),))
        self.assertEqual(opened((ever(again(2, keep(again(2, DOT)), GO)),)), (ever(keep(DOT, DOT), GO, keep(DOT, DOT), GO),))
        self.assertEqual(opened((again(2, keep(again(2, ever(again(2, DOT))))),)), (keep(ever(DOT, DOT), ever(DOT, DOT)),) * 2)
        self.assertEqual(opened((again(0, ever(DOT)), DOT)), (DOT,))
        self.assertEqual(opened((again(12, again(12, again(12, again(12)))),)), ())

    def test_just_sixty_and_one_more(self):
        self.assertEqual(opened((again(12, *[GO] * 5),)), (GO,) * 60)
        self.assertEqual(opened((again(12, keep(*[GO] * 4)),)), (keep(*[GO] * 4),) * 12)
        self.assertEqual(rows_in(opened((ever(DOT, again(10, keep(again(2, GO)), LEFT, RIGHT)), *[DOT] * 8))), 60)
        for program in ((again(12, *[GO] * 5), LEFT), (again(12, keep(*[GO] * 4)), LEFT), (again(12, keep(*[GO] * 5)),),
                        (ever(DOT, again(10, keep(again(2, GO)), LEFT, RIGHT)), *[DOT] * 9), (again(8, again(8, DOT)),),
                        (again(12, again(12, again(12, again(12, DOT)))),), (ever(again(6, again(10, DOT))),)):
            self.assertRaises(TooMuch, opened, program)
        self.assertEqual(opened((again(0, again(12, again(12, DOT))), *[DOT] * 59)), (DOT,) * 59)

    def test_any(self):
        chance = source("opened")
        met = 0
        for _ in range(300):
            program = program_of(some_program(chance, 3))
            try:
                opened(program)
            except TooMuch:
                self.assertGreater(self.many(program), 60)
                continue
            met += 1
            self.assertEqual(rows_in(self.same(program)), self.many(program))
        self.assertGreater(met, 100)

    def many(self, rows):
        return sum(1 if rows_of(each) is None else each[1] * self.many(each[2]) if each[0] == "again" else 1 + self.many(each[1])
                   for each in rows)

    def test_many_figures(self):
        rows = (row("go", Fraction(LONG, LONG - 1)), row("quarter", -LONG))
        self.assertEqual(opened((again(3, *rows),)), rows * 3)


def spared(rows, last):
    """What 44 says stands nowhere in a shorter program, found in rows; last where the last row counts, too."""
    for each in rows:
        if each in (skip(0), grow(1)) or each[0] == "again" and (each[1] < 2 or each[2] == ()) or each == keep():
            return each
        if rows_of(each) is not None:
            found = spared(each[-1], each[0] == "keep")
            if found is not None:
                return found
    for one, other in zip(rows, rows[1:]):
        if one in TURNS and other in TURNS or one[0] == other[0] and one[0] in ("mirror", "skip", "dot"):
            return (one, other)
        if one[0] == other[0] == "grow":
            size = exact(one[1]) * exact(other[1])
            if size.numerator <= 12 and size.denominator <= 12:
                return (one, other)
    return rows[-1] if last and rows and rows[-1][0] in MOVES else None


class Shorter(unittest.TestCase):
    def look(self, program):
        """Made shorter, it keeps what 44 promises."""
        told = shorter(program)
        self.assertEqual(program_of(told), told)
        self.assertIsNone(spared(told, True), (program, told))
        self.assertLessEqual(rows_in(told), rows_in(program))
        (still, ends), (other_still, other_ends) = drawn(program), drawn(told)
        self.assertTrue(alike_pieces(pieces_of(still), pieces_of(other_still)), program)
        self.assertEqual([end[0] for end in ends], [end[0] for end in other_ends])
        for end, other in zip(ends, other_ends):
            self.assertTrue(alike_pieces(pieces_of(end[3]), pieces_of(other[3])))
        return told

    def test_alone(self):
        for each in (skip(0), skip(5), LEFT, RIGHT, ROUND, MIRROR, grow(1), grow(5), again(0, GO), again(3), again(1), keep(), keep(LEFT),
                     keep(keep(skip(1), again(0, DOT))), again(1, LEFT, skip(2))):
            self.assertEqual(self.look((each,)), ())
            self.assertEqual(self.look((GO, each)), (GO,))
            self.assertEqual(self.look((keep(GO, each), GO)), (keep(GO), GO))
        self.assertEqual(self.look(()), ())
        self.assertEqual(self.look((again(1, GO, LEFT), GO)), (GO, LEFT, GO))
        self.assertEqual(self.look((skip(0), grow(1), DOT)), (DOT,))
        for each in (DOT, GO, row("go", 0), row("side", 0, 0), row("arc", 3, 4, 0, 0), again(2, GO, LEFT), ever(GO, LEFT), ever(DOT, skip(1))):
            self.assertEqual(self.look((each,)), (each,))

    def test_turns(self):
        words = {0: (), 1: (LEFT,), 2: (ROUND,), 3: (RIGHT,)}
        turns = {LEFT: 1, ROUND: 2, RIGHT: 3}
        for one in TURNS:
            for other in TURNS:
                both = words[(turns[one] + turns[other]) % 4]
                self.assertEqual(self.look((one, other, GO)), both + (GO,))
                self.assertEqual(self.look((ever(GO, one, other),)), (ever(GO, *both),))
                for third in TURNS:
                    self.assertEqual(self.look((one, other, third, GO)), words[(turns[one] + turns[other] + turns[third]) % 4] + (GO,))

    def test_neighbours(self):
        self.assertEqual(self.look((MIRROR, MIRROR, row("quarter", 1))), (row("quarter", 1),))
        self.assertEqual(self.look((MIRROR, MIRROR, MIRROR, row("quarter", 1))), (MIRROR, row("quarter", 1)))
        self.assertEqual(self.look((skip(1), skip(Fraction(1, 2)), DOT)), (skip(Fraction(3, 2)), DOT))
        self.assertEqual(self.look((skip(1), skip(-1), DOT)), (DOT,))
        self.assertEqual(self.look((DOT, DOT, DOT)), (DOT,))
        self.assertEqual(self.look((grow(3), grow(4), DOT, GO)), (grow(12), DOT, GO))
        self.assertEqual(self.look((grow(3), grow(1, 3), GO)), (GO,))
        self.assertEqual(self.look((grow(3), grow(5), GO)), (grow(3), grow(5), GO))
        self.assertEqual(self.look((grow(11, 12), grow(11, 12), GO)), (grow(11, 12), grow(11, 12), GO))
        self.assertEqual(self.look((GO, GO)), (GO, GO))

    def test_one_after_the_other(self):
        self.assertEqual(self.look((LEFT, MIRROR, MIRROR, RIGHT, GO)), (GO,))
        self.assertEqual(self.look((LEFT, skip(1), MIRROR, grow(2), grow(1, 2), MIRROR, skip(-1), RIGHT, GO)), (GO,))
        self.assertEqual(self.look((LEFT, skip(0), LEFT, keep(LEFT), LEFT, GO)), (RIGHT, GO))
        self.assertEqual(self.look((DOT, again(0, GO), DOT, keep(skip(1)), DOT, LEFT)), (DOT,))
        self.assertEqual(self.look((LEFT, again(1, RIGHT, GO, LEFT), RIGHT, GO)), (GO, GO))
        self.assertEqual(self.look((skip(1), again(1, again(1, skip(1), skip(1)), skip(1)), DOT)), (skip(4), DOT))
        # Two grows that stay come together with a third one.
        self.assertEqual(self.look((grow(5), grow(5), grow(1, 5), GO)), (grow(5), GO))
        self.assertEqual(self.look((grow(7), grow(11), grow(1, 11), grow(1, 7), GO)), (GO,))
        self.assertEqual(self.look((grow(12), grow(12), grow(1, 12), grow(1, 12), GO)), (GO,))
        self.assertEqual(self.look((grow(5), grow(9), grow(1, 3), grow(1, 3), GO)), (grow(5), GO))

    def test_within_blocks(self):
        self.assertEqual(self.look((again(2, GO, LEFT, LEFT),)), (again(2, GO, ROUND),))
        self.assertEqual(self.look((again(2, GO, skip(1)),)), (again(2, GO, skip(1)),))
        self.assertEqual(self.look((ever(GO, skip(0), skip(1), skip(1)),)), (ever(GO, skip(2)),))
        self.assertEqual(self.look((again(2, keep(GO, LEFT, skip(1)), again(0, DOT), again(1, LEFT)),)), (again(2, keep(GO), LEFT),))
        self.assertEqual(self.look((again(2, LEFT, RIGHT), keep(keep(again(3, keep()))), DOT)), (DOT,))
        self.assertEqual(self.look((again(12, keep(LEFT)), LEFT, again(3, skip(1), skip(-1)), LEFT, GO)), (ROUND, GO))
        self.assertEqual(self.look((again(0, ever(DOT)), ever(DOT, DOT))), (ever(DOT),))
        self.assertEqual(self.look((again(2, again(1, ever(DOT, LEFT, RIGHT)), skip(0), GO), MIRROR)), (again(2, ever(DOT), GO),))

    def test_what_is_needed_stays(self):
        for program in ((LEFT, GO), (again(2, LEFT), GO), (again(3, GO, LEFT),), (ever(GO, LEFT, skip(1)),), (keep(skip(1), DOT), DOT),
                        (MIRROR, row("quarter", 1), MIRROR, GO), (ever(GO, grow(1, 2)),), (skip(1), LEFT, skip(1), DOT), (DOT, GO, DOT)):
            self.assertEqual(self.look(program), program)

    def test_any(self):
        chance = source("shorter")
        for _ in range(400):
            self.look(self.some_long_program(chance))

    def some_long_program(self, chance):
        """A program with much that can be spared."""
        while True:
            program = mended(self.some_long_rows(chance, 3, False))
            if done_by(program) <= 200 and rows_in(program) <= 60:
                return program_of(program)

    def some_long_rows(self, chance, deep, within_ever):
        rows = []
        for _ in range(chance.randint(0, 6)):
            word = chance.choice(("row", "spare", "spare", "spare", "again", "keep", "ever"))
            if word == "row":
                rows.append(some_row(chance))
            elif word == "spare" or deep == 0 or (word == "ever" and within_ever):
                rows.append(chance.choice((skip(0), skip(1), skip(-1), LEFT, RIGHT, ROUND, MIRROR, DOT, grow(1), grow(2), grow(1, 2), grow(5, 4))))
            elif word == "again":
                rows.append(again(chance.choice((0, 1, 1, 2, 3)), *self.some_long_rows(chance, deep - 1, within_ever)))
            else:
                rows.append((word, self.some_long_rows(chance, deep - 1, within_ever or word == "ever")))
        return tuple(rows)

    def test_many_figures(self):
        a, b = Fraction(LONG, LONG - 1), Fraction(-1, LONG - 3)
        self.assertEqual(self.look((skip(a), skip(b), DOT)), (skip(a + b), DOT))

    def test_sixty_rows(self):
        self.assertEqual(self.look((LEFT,) * 59 + (GO,)), (RIGHT, GO))
        self.assertEqual(self.look((grow(11, 12), GO) * 30), (grow(11, 12), GO) * 30)
        self.assertEqual(self.look((grow(12),) * 29 + (grow(1, 12),) * 29 + (GO, DOT)), (GO, DOT))

    def test_arguments(self):
        self.assertEqual(names_of(opened), ["program"])
        self.assertEqual(names_of(shorter), ["program"])


if __name__ == "__main__":
    unittest.main()
