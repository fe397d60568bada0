"""From end to end: what one module tells of a program agrees with what the others do [1] to [4]."""

import copy
import inspect
import unittest
from fractions import Fraction

from arcmill.alike import alike
from arcmill.asked import asked, end_has
from arcmill.desk import Desk
from arcmill.errors import MillError, NoKin, NoNumber, TooMuch
from arcmill.few import alike_pieces, joined
from arcmill.frames import led, led_piece, undone
from arcmill.going import drawn
from arcmill.leading import led_by
from arcmill.looker import alike_shown, point_shown
from arcmill.movers import power
from arcmill.programs import program_of
from arcmill.shorter import opened, shorter
from arcmill.strokes import strokes
from arcmill.texts import read, written
from arcmill.winding import winding
from tests.helpers import fraction, has, point, some_point_of, source
from tests.rows import again, ever, keep, row, some_program, some_row


def refused(deed, *handed):
    """What a deed tells, or the class of its refusal."""
    try:
        return deed(*handed)
    except MillError as refusal:
        return type(refusal)


def some_kin_program(chance):
    """A program whose evers have steps that can be held against each other."""
    def some_ever(size):
        rows = [some_row(chance) for _ in range(chance.randint(1, 3))]
        step = row("grow", Fraction(1, 2)) if size else row("skip", 3)
        return ever(keep(*rows, row("go", 1)), step)
    size = chance.random() < .5
    rows = [some_row(chance) for _ in range(chance.randint(0, 3))]
    rows.append(keep(*[some_ever(size) for _ in range(chance.randint(1, 2))]))
    rows.insert(chance.randint(0, len(rows)), again(chance.randint(0, 3), some_row(chance)))
    return tuple(rows)


class EndToEnd(unittest.TestCase):
    def points(self, chance, drawing):
        """Some points that are drawn, and some that may not be."""
        pieces = [each[0] for each in drawing[0]]
        pieces += [led_piece(power(end[0], chance.randint(0, 4)), each[0]) for end in drawing[1] for each in end[3]]
        told = [some_point_of(chance, chance.choice(pieces)) for _ in range(3) if pieces]
        return told + [point(chance.randint(-5, 5), Fraction(chance.randint(-5, 5), 2))]

    def test_points(self):
        chance = source("whole points")
        words = []
        for _ in range(150):
            program = read(written(program_of(some_program(chance))))
            drawing = drawn(program)
            desk = Desk()
            desk.say(("put 0 " + written(program).replace("\n", " ; ")).rstrip())
            for p in self.points(chance, drawing):
                told = refused(asked, drawing, p)
                answer = desk.say("point " + " ".join(str(Fraction(*number)) for number in p))
                if told is TooMuch:
                    self.assertEqual(answer, "too much")
                    continue
                words.append(told[0])
                self.assertTrue(point_shown(drawing, p, told))
                self.assertEqual(answer == "not drawn", told[0] == "out")
                self.look_at_rounds(drawing, p, told)
                # Joined, and told by a program made shorter, opened or led, it is as it was.
                few = joined([each[0] for each in drawing[0]])
                self.assertEqual(any(has(piece, p) for piece in few), told[0] == "still")
                self.assertEqual(refused(asked, drawn(shorter(program)), p)[0], told[0])
                frame = (point(2, -1), chance.randint(0, 3), chance.choice((1, -1)), fraction(chance.randint(1, 4), 2))
                other = refused(led_by, program, frame)
                if other is not TooMuch:
                    self.look_at_led(drawing, drawn(other), frame, p, told)
        self.assertTrue(all(words.count(word) > 20 for word in ("still", "end", "out")))

    def look_at_rounds(self, drawing, p, told):
        """What the first rounds have, piece by piece."""
        for e, end in enumerate(drawing[1]):
            for n in range(5):
                k = end_has(end, n, p)
                wanted = [at for at, each in enumerate(end[3]) if has(led_piece(power(end[0], n), each[0]), p)]
                self.assertEqual(k, wanted[0] if wanted else None)
                if k is not None:
                    self.assertNotEqual(told[0], "out")
                    if told[0] == "end":
                        self.assertLessEqual((told[1], told[3], told[2]), (e, n, k))

    def look_at_led(self, drawing, other, frame, p, told):
        there = refused(asked, other, led(frame, p))
        if there is TooMuch:
            return
        if told[0] == "out":
            self.assertEqual(there[0], "out")
        else:
            self.assertEqual(there, told)
        self.assertTrue(point_shown(other, led(frame, p), there))

    def held(self, one, other):
        """Two drawings held against each other, by what is shown."""
        told = refused(alike, one, other)
        if told in (NoKin, TooMuch):
            return told
        if told[0] == "alike":
            self.assertTrue(alike_shown(told[1], told[2]))
        else:
            word, which, p, within, without = told
            self.assertTrue(point_shown((one, other)[which], p, within) and within[0] != "out")
            self.assertTrue(point_shown((other, one)[which], p, without) and without[0] == "out")
        return told[0]

    def test_programs_told_otherwise(self):
        chance = source("whole programs")
        met = []
        for _ in range(120):
            program = program_of(some_kin_program(chance))
            one = drawn(program)
            met.append(self.held(one, one))
            for other in (refused(opened, program), shorter(program), (keep(*program),), (again(1, *shorter(program)),)):
                if other is TooMuch:
                    continue
                self.assertEqual(self.held(one, drawn(other)), met[-1])
                self.assertEqual(self.held(drawn(other), one), met[-1])
            desk = Desk()
            desk.say("put 0 " + written(program).replace("\n", " ; "))
            answers = {NoKin: "no kin", TooMuch: "too much"}
            self.assertEqual(desk.say("like " + written(shorter(program)).replace("\n", " ; ")), answers.get(met[-1], met[-1]))
        self.assertGreater(met.count("alike"), 40)

    def test_programs_changed(self):
        chance = source("whole changes")
        met = []
        for _ in range(150):
            program = program_of(some_kin_program(chance))
            more = program + (row("skip", chance.randint(-2, 2)), chance.choice((row("go", 1), row("quarter", 1), ("dot",))))
            met.append(self.held(drawn(program), drawn(more)))
            self.assertEqual(self.held(drawn(more), drawn(program)), met[-1])
            if met[-1] == "alike":
                still, other = [[each[0] for each in drawn(each_program)[0]] for each_program in (program, more)]
                self.assertTrue(alike_pieces(still, other) or drawn(program)[1])
        self.assertGreater(met.count("unlike"), 40)

    def test_an_ever_unrolled(self):
        chance = source("whole evers")
        for _ in range(60):
            rows = tuple(some_row(chance) for _ in range(chance.randint(1, 3)))
            if any(each[0] == "grow" for each in rows):
                continue
            rows += (("dot",), row("grow", Fraction(1, 2)) if chance.random() < .5 else row("skip", 1))
            one = drawn(program_of((ever(*rows),)))
            n = chance.randint(1, 3)
            other = drawn(program_of((again(n, *rows), ever(again(2, *rows)))))
            self.assertIn(self.held(one, other), ("alike", NoKin, TooMuch))
            third = drawn(program_of((keep(again(n, *rows)), ever(*rows))))
            self.assertIn(self.held(one, third), ("alike", NoKin, TooMuch))

    def test_strokes_and_pieces(self):
        chance = source("whole strokes")
        for _ in range(60):
            program = program_of(some_program(chance, 1))
            drawing = drawn(program)
            for piece in [each[0] for each in drawing[0] if each[0][0] != "dot"][:4]:
                self.assertIsNone(winding(strokes(program), some_point_of(chance, piece) if piece[0] != "arc" else piece[2]))


class Kept(unittest.TestCase):
    def test_nothing_that_is_handed_in_is_changed(self):
        chance = source("whole kept")
        for _ in range(30):
            one, other = [drawn(program_of(some_kin_program(chance))) for _ in range(2)]
            p = point(chance.randint(-3, 3), 0)
            same = copy.deepcopy((one, other))
            told = refused(alike, one, other)
            paper = refused(asked, one, p)
            papers = copy.deepcopy((told, paper))
            if type(paper) is tuple:
                self.assertTrue(point_shown(one, p, paper))
            if type(told) is tuple and told[0] == "alike":
                self.assertTrue(alike_shown(told[1], told[2]))
            self.assertEqual((one, other), same)
            self.assertEqual((told, paper), papers)

    def test_lists_are_the_asker_s_own(self):
        program = (row("go", 2), ever(row("go", 1), row("grow", Fraction(1, 2))))
        one, other = drawn(program), drawn(program)
        told = alike(one, other)
        same = copy.deepcopy(told)
        for rows in (one[0], one[1][0][3], one[1], other[0]):
            rows.clear()
        self.assertEqual(told, same)
        self.assertEqual(alike(drawn(program), drawn(program)), same)


class Interface(unittest.TestCase):
    NAMES = {
        "fractions": "ratio plus minus times over below", "points": "together off grown turned far side before",
        "stretches": "stretch line common cut", "arcs": "arc on ahead at_share share_of quarters", "programs": "program_of",
        "texts": "written read", "frames": "first led behind undone led_piece", "going": "move drawn",
        "few": "carrier joined alike_pieces chain", "movers": "power count kind", "ends": "reach span", "asked": "asked end_has",
        "strokes": "strokes", "winding": "winding inside", "areas": "cut_strokes slivers area", "kin": "evened", "alike": "alike",
        "looker": "point_shown alike_shown", "shorter": "opened shorter", "leading": "led_by", "changes": "changed row_at",
        "desk": "Desk desk_of", "errors": "MillError NoNumber NoPiece TooMuch NoKin NoRow NoText"}

    def test_names(self):
        for module, names in self.NAMES.items():
            loaded = __import__(f"arcmill.{module}", fromlist=["names"])
            for name in names.split():
                self.assertTrue(callable(getattr(loaded, name)), (module, name))
                self.assertEqual(getattr(loaded, name).__module__, f"arcmill.{module}")

    def test_refusals_beside_each_other(self):
        loaded = __import__("arcmill.errors", fromlist=["names"])
        classes = [each for _, each in inspect.getmembers(loaded, inspect.isclass) if each is not MillError]
        self.assertEqual(len(classes), 6)
        for each in classes:
            self.assertEqual(each.__bases__, (MillError,))
        self.assertTrue(issubclass(MillError, ValueError) and issubclass(NoNumber, MillError))


if __name__ == "__main__":
    unittest.main()
