"""Rows and programs by their form [14] to [16]."""

import unittest
from fractions import Fraction

from arcmill.errors import NoRow, TooMuch
from arcmill.programs import program_of
from tests.helpers import LONG, exact, fraction, is_fraction, names_of, source
from tests.rows import (DOT, GO, LEFT, again, done_by, ever, keep, let_size, row, rows_in, rows_of, size_of, some_program)

NUMBERS = {"go": 1, "skip": 1, "side": 2, "dot": 0, "left": 0, "right": 0, "round": 0, "mirror": 0, "grow": 1, "quarter": 1,
           "half": 1, "arc": 4}

RIGHT_ROWS = [row("go", 3), row("go", 0), row("go", Fraction(-7, 3)), row("skip", 0), row("skip", Fraction(1, 9)),
              row("side", 0, 0), row("side", Fraction(-1, 2), 8), DOT, LEFT, ("right",), ("round",), ("mirror",),
              row("grow", Fraction(1, 12)), row("grow", 12), row("grow", 1), row("grow", Fraction(11, 12)),
              row("grow", Fraction(12, 11)), row("quarter", -1), row("quarter", Fraction(1, 99)), row("half", 5),
              row("half", Fraction(-5, 7)), row("arc", 3, 4, 6, 8), row("arc", 3, 4, 0, 0), row("arc", 0, 1, 1, 1),
              row("arc", 1, 0, 1, -1), row("arc", 3, 4, 8, 4), again(0), again(12, DOT), again(3, again(2, GO), LEFT), keep(),
              keep(GO), ever(DOT), ever(GO, row("grow", Fraction(3, 4)))]

# Things that are no rows, whatever stands round them.
NO_ROWS = [(), "go", "", 5, True, False, ("go",), ("dot", (1, 1)), ("left", (1, 1)), ("mirror", ()), ("side", (1, 1)),
           ("go", (1, 1), (1, 1)), ("side", (1, 1), (1, 1), (1, 1)), ("arc", (3, 1), (4, 1), (6, 1)), ("up",), ("",),
           ("arc", (3, 1), (4, 1), (6, 1), (8, 1), (0, 1)), ("GO", (1, 1)), ("go ", (1, 1)), (("go", (1, 1)),), (1, (1, 1)),
           (True,), (("dot",),), ("end",), ("quarter",), ("half", (1, 1), (1, 1)), ("grow",),
           # Numbers that are no fractions.
           ("go", 1), ("go", "1"), ("go", (2, 4)), ("go", (1, 0)), ("go", (1, -2)), ("go", (0, 2)), ("go", (0, 0)), ("go", (1,)),
           ("go", (1, 2, 3)), ("go", ()), ("go", (1, "2")), ("go", ((1, 1), 1)), ("go", True), ("go", (True, 1)),
           ("go", (1, True)), ("go", (False, 1)), ("skip", (0, True)), ("side", (1, 1), (4, 2)), ("side", (4, 2), (1, 1)),
           ("grow", (True, 2)),
           # Numbers that are not let.
           ("grow", (1, 13)), ("grow", (13, 1)), ("grow", (13, 12)), ("grow", (12, 13)), ("grow", (25, 24)), ("grow", (0, 1)),
           ("grow", (-1, 2)), ("grow", (2, 4)), ("quarter", (0, 1)), ("half", (0, 1)),
           ("arc", (0, 1), (0, 1), (0, 1), (0, 1)), ("arc", (0, 1), (0, 1), (1, 1), (1, 1)),
           ("arc", (3, 1), (4, 1), (6, 1), (7, 1)), ("arc", (3, 1), (4, 1), (3, 1), (4, 1)), ("arc", (0, 1), (1, 1), (0, 1), (1, 1)),
           # Blocks of another form.
           ("again", 3), ("again", (DOT,)), ("again", (3, 1), (DOT,)), ("again", True, (DOT,)), ("again", False, ()),
           ("again", 13, (DOT,)), ("again", -1, (DOT,)), ("again", "3", (DOT,)), ("again", 3, "dot"), ("again", 3, 5),
           ("again", 3, (DOT,), ()), ("again", 3, ()) + ((1, 1),), ("keep",), ("keep", 3, ()), ("keep", "dot"), ("keep", True),
           ("ever",), ("ever", 1), ("ever", (DOT,), ()), ("ever", 3, (DOT,)), ("again", 10 ** 59, (DOT,)),
           # Evers that can't go on.
           ever(), ever(GO, row("grow", Fraction(4, 5))), ever(GO, row("grow", Fraction(7, 9))), ever(GO, row("grow", 2)),
           ever(GO, row("grow", Fraction(12, 11))), ever(LEFT, row("skip", 1)), ever(again(0, DOT)), ever(keep(again(0, GO))),
           ever(again(12, again(12, DOT, DOT, DOT)))]


def numbers_of(rows):
    return sum(2 + numbers_of(each[-1]) if rows_of(each) is not None else 1 for each in rows)


def drawing_rows(rows):
    """How many rows that draw are done."""
    many = 0
    for each in rows:
        if rows_of(each) is not None:
            many += drawing_rows(each[-1]) * (each[1] if each[0] == "again" else 1)
        else:
            many += each[0] in ("go", "side", "dot", "quarter", "half", "arc")
    return many


def plainly_right(thing):
    """Whether a thing is a row without a block, by the words of 14."""
    if type(thing) is not tuple or not thing or type(thing[0]) is not str or NUMBERS.get(thing[0]) != len(thing) - 1:
        return False
    word, *numbers = thing
    if not all(is_fraction(number) for number in numbers):
        return False
    values = [exact(number) for number in numbers]
    if word == "grow":
        return 1 <= numbers[0][0] <= 12 and 1 <= numbers[0][1] <= 12
    if word in ("quarter", "half"):
        return values[0] != 0
    if word == "arc":
        a, b, c, d = values
        return (a, b) != (0, 0) and (c - a) ** 2 + (d - b) ** 2 == a ** 2 + b ** 2
    return True


def first_wrong(rows, number=0, around=()):
    """The number of the first row that is none, by the words of 16, or None."""
    for each in rows:
        if type(each) is tuple and each and each[0] in ("again", "keep", "ever") and type(each[0]) is str:
            whole = each[0] != "again" or (len(each) == 3 and type(each[1]) is int and 0 <= each[1] <= 12)
            if not whole or len(each) != (3 if each[0] == "again" else 2) or type(each[-1]) is not tuple:
                return number
            if len(around) == 4 or (each[0] == "ever" and "ever" in around):
                return number
            wrong = first_wrong(each[-1], number + 1, around + (each[0],))
            if wrong is not None:
                return wrong
            if each[0] == "ever" and (done_by(each[1]) > 300 or not let_size(size_of(each[1])) or not drawing_rows(each[1])):
                return number
            number += 2 + numbers_of(each[-1])
        elif plainly_right(each):
            number += 1
        else:
            return number
    return None


class Look(unittest.TestCase):
    def right(self, *rows):
        told = program_of(rows)
        self.assertEqual(told, rows)
        self.assertIs(type(told), tuple)

    def wrong(self, number, *rows):
        with self.assertRaises(NoRow) as caught:
            program_of(rows)
        self.assertEqual(caught.exception.row, number, rows)
        self.assertIs(type(caught.exception.row), int)


class Forms(Look):
    def test_rows(self):
        self.right()
        for each in RIGHT_ROWS:
            self.right(each)
            self.right(LEFT, each, each)
        self.right(*RIGHT_ROWS)

    def test_no_rows(self):
        for each in NO_ROWS:
            self.wrong(0, each)
            self.wrong(2, DOT, LEFT, each, DOT)
            self.wrong(5, DOT, again(2, GO), keep(each), DOT)

    def test_grow(self):
        for top in range(-1, 15):
            for bottom in range(1, 15):
                number = fraction(top, bottom)
                if 1 <= number[0] <= 12 and number[1] <= 12:
                    self.right(("grow", number))
                else:
                    self.wrong(0, ("grow", number))

    def test_numbers_of_many_figures(self):
        self.right(row("go", LONG), row("skip", Fraction(-LONG, LONG - 1)), row("quarter", Fraction(1, LONG)))
        self.right(row("arc", 3 * 10 ** 58, 4 * 10 ** 58, 8 * 10 ** 58, 4 * 10 ** 58))
        self.wrong(0, row("arc", 3 * 10 ** 58, 4 * 10 ** 58, 8 * 10 ** 58, 4 * 10 ** 58 + 1))
        self.wrong(0, ("go", (2 * (LONG // 3), LONG // 3 * 4)))
        self.wrong(0, ("again", LONG, (DOT,)))
        self.wrong(0, ("again", -LONG, (DOT,)))

    def test_deep_tuples(self):
        deep = DOT
        for _ in range(19):
            deep = (deep,)
            self.wrong(0, deep)
            self.wrong(1, DOT, ("go", deep))
            self.wrong(1, DOT, ("keep", deep, deep))
        blocks = DOT
        for _ in range(9):
            blocks = keep(blocks)
        self.wrong(4, blocks)


class Blocks(Look):
    def test_how_deep(self):
        self.right(keep(again(2, keep(ever(DOT)))))
        self.right(ever(keep(again(2, keep(DOT)))))
        self.right(keep(keep(keep(keep()))), again(1, again(2, again(3, again(4)))))
        self.wrong(4, keep(again(2, keep(ever(keep(DOT))))))
        self.wrong(4, again(1, again(1, again(1, again(1, again(1))))))
        self.wrong(5, DOT, keep(keep(keep(keep(keep())))))
        self.wrong(11, keep(keep(keep(keep()))), again(1, DOT), ())
        # Of two blocks beside each other neither is in the other one.
        self.right(*[keep(keep(keep(keep()), keep())), keep(keep(), keep())] * 3)

    def test_the_fifth_goes_ahead_of_its_own_faults(self):
        self.wrong(4, keep(keep(keep(keep(ever(("none",)))))))
        self.wrong(5, keep(keep(keep(keep(DOT, keep(("none",)))))))
        self.wrong(4, keep(keep(keep(keep(("none",), keep())))))

    def test_no_ever_within_an_ever(self):
        self.wrong(1, ever(ever(DOT)))
        self.wrong(2, ever(DOT, ever(DOT)))
        self.wrong(3, ever(DOT, keep(ever(DOT))))
        self.wrong(4, ever(DOT, keep(again(0, ever(DOT)))))
        self.wrong(3, keep(ever(keep(ever(DOT)))))
        self.right(ever(DOT), ever(DOT), keep(ever(DOT), again(2, ever(DOT))))

    def test_the_move_of_an_ever(self):
        half = row("grow", Fraction(1, 2))
        self.right(ever(DOT, row("grow", Fraction(3, 4))))
        self.right(ever(DOT, row("grow", 3), row("grow", Fraction(1, 4))))
        self.right(ever(DOT, row("grow", 2), half))
        self.right(ever(DOT, again(3, half), row("grow", 6)))
        self.right(ever(DOT, keep(row("grow", 12)), half))
        self.right(ever(DOT, again(0, row("grow", 12))))
        self.right(ever(DOT, again(5, half, again(2, row("grow", Fraction(7, 5))), row("grow", Fraction(1, 2)))))
        parts = [row("grow", Fraction(*pair)) for pair in ((11, 12), (9, 11), (12, 11), (11, 12))]
        self.right(ever(DOT, *parts))
        for rows in ((row("grow", Fraction(9, 12)), row("grow", Fraction(10, 9)), row("grow", Fraction(10, 11))),
                     (again(2, row("grow", Fraction(9, 10))), row("grow", Fraction(12, 11))), (again(2, row("grow", 3)), half),
                     (again(12, row("grow", Fraction(12, 11))), again(11, row("grow", Fraction(11, 12)))),
                     (row("grow", Fraction(10, 11)), row("grow", Fraction(9, 10)), row("grow", Fraction(11, 12)), row("grow", Fraction(12, 11)))):
            self.wrong(1, DOT, ever(DOT, *rows), ())
        self.wrong(0, ever(DOT, again(12, row("grow", 12))))

    def test_an_ever_draws(self):
        for each in RIGHT_ROWS:
            if each[0] in ("go", "side", "dot", "quarter", "half", "arc"):
                self.right(ever(each))
                self.right(ever(keep(each)))
                self.right(ever(again(1, each)))
                self.wrong(1, DOT, ever(again(0, each), keep(LEFT), again(2, again(0, each))))
        for each in (row("skip", 1), LEFT, ("right",), ("round",), ("mirror",), row("grow", Fraction(1, 2)), keep(), again(2)):
            self.wrong(2, DOT, LEFT, ever(each), DOT)

    def test_how_many_rows_an_ever_does(self):
        hundred = again(10, again(10, DOT))
        self.right(ever(hundred, hundred, hundred))
        self.wrong(1, LEFT, ever(hundred, hundred, hundred, LEFT))
        self.wrong(1, LEFT, ever(hundred, hundred, keep(again(10, again(10, DOT)), LEFT)))
        self.right(ever(again(12, keep(again(5, *[GO] * 5)))))
        self.wrong(0, ever(again(12, keep(again(5, *[GO] * 5))), DOT))
        self.right(ever(again(0, again(12, again(12, *[GO] * 5))), DOT))
        # Outside of evers that isn't looked at.
        self.right(again(12, again(12, again(12, again(12, DOT)))))
        self.right(again(12, again(12, ever(again(12, *[GO] * 25)))))

    def test_the_rows_of_an_ever_go_ahead_of_its_move(self):
        self.wrong(3, ever(row("grow", 2), LEFT, ("none",)))
        self.wrong(0, ever(row("grow", 2), LEFT), ("none",))
        self.wrong(1, keep(ever(LEFT)), ever())


class Numbers(Look):
    def test_behind_the_ends_of_blocks(self):
        self.wrong(3, keep(DOT), ())
        self.wrong(2, keep(), ())
        self.wrong(7, keep(DOT, again(2, DOT), DOT), ())
        self.wrong(9, again(2, keep(DOT), ever(DOT), LEFT), ())
        self.wrong(8, again(2, keep(DOT), ever(DOT), LEFT, ()))
        self.wrong(8, keep(keep(keep(keep()))), (), DOT)

    def test_the_first_of_two(self):
        self.wrong(1, DOT, ("none",), ("go", 1))
        self.wrong(2, DOT, keep(("none",)), ("go", 1))
        self.wrong(1, DOT, ("keep", "none"), ("go", 1))
        self.wrong(1, ("again", 2, (("go", 1),)), 5)
        self.wrong(0, ("again", 13, (("go", 1),)), 5)


class Sizes(Look):
    def test_just_sixty_and_one_more(self):
        self.right(*[DOT] * 60)
        self.right(*[keep()] * 60)
        self.right(*[again(2, DOT, keep(LEFT))] * 15)
        self.right(keep(again(12, *[DOT] * 58)))
        for rows in ([DOT] * 61, [keep()] * 61, [again(2, DOT, keep(LEFT))] * 15 + [DOT], [keep(again(0, *[DOT] * 59))], [DOT] * 90):
            self.assertRaises(TooMuch, program_of, tuple(rows))

    def test_behind_a_row_that_is_none(self):
        self.wrong(61, *[DOT] * 61, ())
        self.wrong(60, *[DOT] * 60, "dot")
        self.wrong(0, ever(*[LEFT] * 61))
        self.wrong(61, *[DOT] * 61, ever(LEFT))
        self.wrong(122, *[keep()] * 61, ())


class Any(Look):
    def changed(self, chance, thing, deep=0):
        """A thing with one place put otherwise."""
        if type(thing) is not tuple or not thing or chance.random() < .15:
            return chance.choice(((), "go", 3, True, (1, 1), (0, 1), DOT, ever(DOT), ever(LEFT), keep(keep(DOT)), (13, 1), -1, 12,
                                  row("grow", 2), row("grow", Fraction(1, 3)), "ever", "keep", "dot", LEFT, again(0, DOT)))
        at = chance.randrange(len(thing))
        return thing[:at] + (self.changed(chance, thing[at], deep + 1),) + thing[at + 1:]

    def test_by_the_words(self):
        chance = source("programs")
        met = {True: 0, False: 0}
        for _ in range(3000):
            rows = some_program(chance, 3)
            if first_wrong(rows) is None:
                self.right(*rows)
            for _ in range(chance.randint(1, 2)):
                rows = self.changed(chance, rows)
            if type(rows) is not tuple:
                continue
            number = first_wrong(rows)
            met[number is None] += 1
            if number is not None:
                self.wrong(number, *rows)
            elif rows_in(rows) > 60:
                self.assertRaises(TooMuch, program_of, rows)
            else:
                self.right(*rows)
        self.assertTrue(all(many > 200 for many in met.values()), met)

    def test_arguments(self):
        self.assertEqual(names_of(program_of), ["rows"])


if __name__ == "__main__":
    unittest.main()
