"""The desk [47] and its journal [48]."""

import unittest
from fractions import Fraction

from arcmill.alike import alike
from arcmill.areas import area
from arcmill.asked import asked
from arcmill.changes import changed
from arcmill.desk import Desk, desk_of
from arcmill.errors import NoKin, NoRow, TooMuch
from arcmill.few import joined
from arcmill.going import drawn
from arcmill.programs import program_of
from arcmill.strokes import strokes
from arcmill.texts import read, written
from tests.helpers import LONG, names_of, point, source
from tests.rows import some_program

SQUARE = "again 4 ; go 2 ; left ; end"
NOT_KNOWN = ["", " ", "  ", "show ", " show", "show  ", "Show", "SHOW", "show now", "shown", "pieces 1", "few 2", "pieces ", "back 1", "back ", " back",
             "put", "put ", "put  ", "put x", "put dot", "put ; dot", "put 0 ", "put 0  dot", "put  0 dot", "put 0 dot ", " put 0 dot", "put 00 dot",
             "put 01 dot", "put -0 dot", "put +1 dot", "put 1/2 dot", "put 1/1 dot", "put 1.0 dot", "put 0, dot", "put 0 go  1", "put 0 dot ;  dot", "put 0 dot  ; dot",
             "put 0 dot ; ", "put0 dot", "point", "point 1", "point 1 2 3", "point 1 2 ", "point 1  2", "point x y", "point 1 2/4", "point 2/4 1",
             "point 1/1 0", "point 01 0", "point -0 0", "point +1 0", "point 1 1/0", "point 1 1/-2", "point 1,2", "point 1 0/1", "point (1 2)",
             "like ", "like  dot", "like dot ", "like dot  ; dot", "area", "area odd", "area odd 0", "area odd 5", "area odd 1 1", "area odd 01", "area odd 1/1",
             "area odd +1", "area odd 1 ", "area  odd 1", "area even 1", "area Odd 1", "area wound -1", "area 1 odd", "area odd 11", "area odd x", "area wound 10",
             "put 0\ndot", "show\n", "put 0 dot\ndot", "like dot\n", "\n", "journal", "say show", "nothing", "ok", "not known", "end", "dot", "go 1", ";"]


class Look(unittest.TestCase):
    def setUp(self):
        self.desk = Desk()

    def told(self, *pairs):
        for row, answer in pairs:
            self.assertEqual(self.desk.say(row), answer, row)


class Puts(Look):
    def test_put_and_show(self):
        self.told(("show", "nothing"), ("put 0 " + SQUARE, "ok"), ("show", SQUARE), ("put 4 dot", "ok"), ("show", SQUARE + " ; dot"),
                  ("put 1 go 1/2 ; skip -3", "ok"), ("show", "again 4 ; go 1/2 ; skip -3 ; left ; end ; dot"),
                  ("put 4 keep ; end", "ok"), ("show", "again 4 ; go 1/2 ; skip -3 ; left ; keep ; end ; end ; dot"),
                  ("put 0 dot", "ok"), ("show", "dot ; dot"), ("put 1", "ok"), ("show", "dot"), ("put 0", "ok"), ("show", "nothing"), ("put 0", "ok"))

    def test_back(self):
        self.told(("back", "nothing"), ("put 0 dot", "ok"), ("put 1 left", "ok"), ("back", "ok"), ("show", "dot"), ("put 0", "ok"), ("show", "nothing"),
                  ("back", "ok"), ("show", "dot"), ("back", "ok"), ("show", "nothing"), ("back", "nothing"), ("back", "nothing"),
                  ("put 0 go 1", "ok"), ("back", "ok"), ("back", "nothing"))

    def test_back_behind_a_put_that_changes_nothing(self):
        self.told(("put 0 dot", "ok"), ("put 1", "ok"), ("show", "dot"), ("back", "ok"), ("show", "dot"), ("back", "ok"), ("show", "nothing"), ("back", "nothing"))

    def test_refused_puts_change_nothing(self):
        self.told(("put 0 dot ; keep ; go 1 ; end", "ok"))
        refused = (("put 5 dot", "no row 5"), ("put -1 dot", "no row -1"), ("put 9", "no row 9"), ("put 0 do", "no text 0"), ("put 0 dot ; go", "no text 1"),
                   ("put 0 keep", "no text 1"), ("put 0 keep ; dot", "no text 2"), ("put 0 end", "no text 0"), ("put 0 dot ; end", "no text 1"),
                   ("put 0 half 0", "no row 0"), ("put 0 dot ; grow 13", "no row 1"), ("put 0 again 13 ; end", "no row 0"), ("put 0 go 2/4", "no text 0"),
                   ("put 0 go 01", "no text 0"), ("put 0 ever ; left ; end", "no row 0"), ("put 0 " + " ; ".join(["dot"] * 61), "too much"),
                   ("put 1 " + " ; ".join(["dot"] * 60), "too much"), ("put 4 " + " ; ".join(["dot"] * 58), "too much"),
                   ("put 0 dot;dot", "no text 0"), ("put 0 ;", "no text 0"), ("put 0 ; dot", "no text 0"), ("put 0 dot ; ; dot", "no text 1"),
                   (f"put {LONG} dot", f"no row {LONG}"), (f"put -{LONG}", f"no row -{LONG}"))
        for row, answer in refused:
            self.told((row, answer), ("show", "dot ; keep ; go 1 ; end"))
        self.assertEqual(self.desk.journal(), ["put 0 dot ; keep ; go 1 ; end"])
        self.told(("back", "ok"), ("show", "nothing"), ("back", "nothing"))

    def test_the_order_of_refusals(self):
        self.told(("put 0 keep ; keep ; keep ; end ; end ; end", "ok"))
        # What is read goes first, then the number, then what comes, with its own numbers.
        self.told(("put 99 no", "no text 0"), ("put 99 dot ; half 0", "no row 1"), ("put 99 " + " ; ".join(["dot"] * 61), "too much"), ("put 99 dot", "no row 99"),
                  ("put 3 dot ; keep ; keep ; end ; end", "no row 5"), ("put 3 keep ; keep ; end ; end", "no row 4"), ("put 3 dot ; keep ; end", "ok"),
                  ("put 6 " + " ; ".join(["dot"] * 55), "ok"), ("put 6 " + " ; ".join(["dot"] * 57), "too much"))
        self.desk = Desk()
        self.told(("put 0 dot ; ever ; dot ; end", "ok"), ("put 2 left", "no row 1"), ("put 2", "no row 1"), ("put 3 grow 2", "no row 1"),
                  ("put 3 dot ; ever ; dot ; end", "no row 4"), ("put 2 keep ; ever ; dot ; end ; end", "no row 3"))

    def test_sixty_figures(self):
        self.told((f"put 0 go {LONG} ; skip -{LONG}/{LONG - 1}", "ok"), ("show", f"go {LONG} ; skip -{LONG}/{LONG - 1}"), (f"point {LONG} 0", "drawn 0"),
                  (f"point {LONG} 1/{LONG}", "not drawn"))


class Answers(Look):
    def test_pieces_and_few(self):
        self.told(("pieces", "0"), ("few", "0"), ("put 0 " + SQUARE, "ok"), ("pieces", "4"), ("few", "4"),
                  ("put 4 again 2 ; go 1 ; end ; dot", "ok"), ("pieces", "7"), ("few", "4"),
                  ("put 0 ever ; go 1 ; dot ; end", "ok"), ("pieces", "3 2"), ("few", "1"),
                  ("put 0 again 3 ; ever ; dot ; skip 1 ; end ; end ; ever ; go 1 ; again 4 ; dot ; end ; end", "ok"), ("pieces", "3 1 1 1 5"))

    def test_point(self):
        self.told(("point 0 0", "not drawn"), ("put 0 skip 1 ; again 2 ; go 3 ; left ; end ; dot", "ok"), ("point 1 0", "drawn 2"), ("point 4 5/2", "drawn 2"),
                  ("point 4 3", "drawn 2"), ("point 1/2 0", "not drawn"), ("point -1 -1/3", "not drawn"),
                  ("put 1 ever ; dot ; skip 2 ; end ; dot", "ok"), ("point 1 0", "drawn 5"), ("point 7 0", "drawn 2 in 3"), ("point 8 0", "not drawn"),
                  ("point 1000000001 0", "drawn 2 in 500000000"), ("point -1 0", "not drawn"),
                  ("put 0 ever ; keep ; skip 1 ; dot ; end ; grow 1/2 ; dot ; end", "ok"), ("point 1/1024 0", "drawn 3 in 10"),
                  ("point 0 0", "drawn 12"), ("put 13", "ok"), ("put 12", "ok"), ("point 0 0", "drawn 6 in 0"))

    def test_point_too_much(self):
        self.told(("put 0 ever ; keep ; skip 1 ; dot ; end ; grow 3/4 ; end", "ok"), ("point 0 0", "not drawn"),
                  (f"point 0 1/{10 ** 200}", "too much"), (f"point 0 1/{10 ** 100}", "not drawn"))

    def test_like(self):
        self.told(("like", "alike"), ("like dot", "unlike"), ("put 0 " + SQUARE, "ok"), ("like " + SQUARE, "alike"), ("like", "unlike"),
                  ("like go 2 ; left ; go 2 ; left ; go 2", "unlike"), ("like left ; again 4 ; go 1 ; go 1 ; right ; end", "alike"),
                  ("put 0 ever ; go 1 ; skip 1 ; end", "ok"), ("like go 1 ; skip 1 ; ever ; go 1 ; skip 1 ; go 1 ; skip 1 ; end", "alike"),
                  ("like ever ; go 1 ; end", "unlike"), ("like ever ; go 1 ; skip 1/7 ; end", "unlike"), ("like ever ; go 1 ; skip 12 ; end", "no kin"),
                  ("like ever ; go 1 ; grow 1/2 ; end", "no kin"), ("like ever ; left ; go 1 ; right ; end", "no kin"), ("like skip 9999 ; dot", "too much"),
                  ("like no", "no text 0"), ("like half 0", "no row 0"), ("like " + " ; ".join(["dot"] * 61), "too much"), ("like keep", "no text 1"),
                  ("like again 12 ; again 12 ; again 12 ; dot ; end ; end ; end", "too much"))

    def test_area(self):
        self.told(("area odd 1", "0 0"), ("put 0 " + SQUARE, "ok"), ("area odd 1", "4 4"), ("area wound 4", "4 4"), ("put 0 again 2 ; " + SQUARE + " ; end", "ok"),
                  ("area odd 2", "0 0"), ("area wound 2", "4 4"), ("put 0 arc 0 1 0 0", "ok"), ("area odd 1", "0 4"),
                  ("put 0 side 1/3 0 ; left ; go 1/2", "ok"), ("area odd 3", "1/12 1/12"), ("put 0 again 7 ; quarter 1 ; end", "ok"), ("area odd 4", "too much"))

    def test_parts(self):
        self.told(("put 0 arc 0 1 0 0", "ok"))
        answers = [self.desk.say(f"area wound {parts}") for parts in (1, 2, 3, 4)]
        wanted = [area(strokes(read("arc 0 1 0 0")), "wound", parts) for parts in (1, 2, 3, 4)]
        self.assertEqual(answers, [" ".join(str(Fraction(*number)) for number in pair) for pair in wanted])
        self.assertEqual(len(set(answers)), 4)

    def test_a_program_that_does_too_many_rows(self):
        row = "again 12 ; again 12 ; again 12 ; dot ; end ; end ; end"
        self.told(("put 0 " + row, "ok"), ("show", row), ("pieces", "too much"), ("few", "too much"), ("point 0 0", "too much"), ("like dot", "too much"),
                  ("like", "too much"), ("area odd 1", "too much"), ("like no", "no text 0"), ("like half 0", "no row 0"), ("like " + row, "too much"),
                  ("like ever ; go 1 ; end", "too much"), ("area odd 5", "not known"), ("point 0", "not known"), ("put 3 go 1", "ok"), ("back", "ok"), ("show", row),
                  ("put 0 again 12 ; again 5 ; again 5 ; dot ; end ; end ; end", "ok"), ("pieces", "300"), ("put 9 left", "no row 9"), ("put 7 left", "ok"), ("pieces", "too much"))

    def test_not_known(self):
        for row in NOT_KNOWN:
            self.told((row, "not known"))
        self.told(("put 0 dot", "ok"))
        for row in NOT_KNOWN:
            self.told((row, "not known"), ("show", "dot"))
        self.assertEqual(self.desk.journal(), ["put 0 dot"])


class Journals(Look):
    def test_journal(self):
        self.assertEqual(self.desk.journal(), [])
        rows = ["put 0 dot", "show", "put 9 dot", "back", "back", "put 0 go 1", "put x", "few", "put 1 left", "put 0 no", "back", "put 1 go 2 ; dot", "pieces", "like dot"]
        for row in rows:
            self.desk.say(row)
        kept = ["put 0 dot", "back", "put 0 go 1", "put 1 left", "back", "put 1 go 2 ; dot"]
        self.assertEqual(self.desk.journal(), kept)
        told = self.desk.journal()
        told.clear()
        self.assertEqual(self.desk.journal(), kept)
        self.assertIs(type(told), list)

    def test_a_desk_of_a_journal(self):
        for row in ("put 0 dot", "put 1 go 1", "back", "put 1 left ; go 3", "put 0", "back"):
            self.assertEqual(self.desk.say(row), "ok")
        journal = self.desk.journal()
        other = desk_of(journal)
        self.assertEqual(journal, self.desk.journal())
        self.assertEqual(other.journal(), journal)
        journal.clear()
        for row in ("show", "pieces", "point 0 2", "back", "show", "back", "back", "show", "back", "put 0 half 1", "show", "area odd 1"):
            self.assertEqual(other.say(row), self.desk.say(row), row)
            self.assertEqual(other.journal(), self.desk.journal())
        self.assertIsInstance(other, Desk)

    def test_of_no_rows(self):
        self.assertEqual(desk_of([]).say("show"), "nothing")
        self.assertEqual(desk_of([]).journal(), [])

    def test_two_desks_keep_their_own(self):
        other = Desk()
        self.desk.say("put 0 dot")
        self.assertEqual(other.say("show"), "nothing")
        self.assertEqual(other.journal(), [])


class Any(Look):
    """A desk held against what the other modules tell."""

    def lines(self, program):
        return (" " + written(program).replace("\n", " ; ")).rstrip()

    def wanted(self, deed):
        try:
            return deed()
        except NoRow as refusal:
            return f"no row {refusal.row}"
        except TooMuch:
            return "too much"
        except NoKin:
            return "no kin"

    def number(self, pair):
        return str(Fraction(*pair))

    def asked(self, program, p):
        still, ends = drawn(program)
        told = asked((still, ends), p)
        if told[0] == "still":
            return f"drawn {still[told[1]][1]}"
        return "not drawn" if told[0] == "out" else f"drawn {ends[told[1]][3][told[2]][1]} in {told[3]}"

    def look(self, program, chance):
        self.told(("show", self.lines(program).strip() or "nothing"))
        drawing = drawn(program)
        self.told(("pieces", " ".join(str(len(each)) for each in [drawing[0]] + [end[3] for end in drawing[1]])),
                  ("few", str(len(joined([each[0] for each in drawing[0]])))))
        p = point(Fraction(chance.randint(-6, 6), 2), Fraction(chance.randint(-6, 6), 2))
        self.told((f"point {self.number(p[0])} {self.number(p[1])}", self.wanted(lambda: self.asked(program, p))))
        rule, parts = chance.choice(("odd", "wound")), chance.randint(1, 2)
        self.told((f"area {rule} {parts}", self.wanted(lambda: " ".join(map(self.number, area(strokes(program), rule, parts))))))
        other = some_program(chance, 1)
        self.told(("like" + self.lines(other), self.wanted(lambda: alike(drawing, drawn(other))[0])))

    def test_any(self):
        chance = source("desk")
        for _ in range(12):
            self.desk, programs, kept = Desk(), [()], []
            for _ in range(12):
                rows = some_program(chance, 1)
                number = chance.randint(-1, len(written(programs[-1]).split("\n")) + 1)
                if chance.random() < .3:
                    row, answer = "back", "ok" if len(programs) > 1 else "nothing"
                    programs = programs[:-1] or programs
                else:
                    row = f"put {number}" + self.lines(rows)
                    try:
                        other = changed(programs[-1], number, program_of(rows))
                        drawn(other)
                        programs.append(other)
                        answer = "ok"
                    except NoRow as refusal:
                        answer = f"no row {refusal.row}"
                    except TooMuch:
                        continue
                self.told((row, answer))
                kept += [row] if answer == "ok" else []
                self.look(programs[-1], chance)
            self.assertEqual(self.desk.journal(), kept)
            other = desk_of(kept)
            for row in ["show", "back", "pieces", "show"] * len(programs):
                self.assertEqual(other.say(row), self.desk.say(row))

    def test_lines_are_read_as_texts_are(self):
        chance = source("lines")
        for _ in range(60):
            program = program_of(some_program(chance, 3))
            self.desk = Desk()
            self.told(("put 0" + self.lines(program), "ok"))
            shown = self.desk.say("show")
            self.assertEqual(read(shown.replace(" ; ", "\n")) if program else shown, program or "nothing")

    def test_arguments(self):
        self.assertEqual(names_of(Desk.say)[1:], ["row"])
        self.assertEqual(names_of(Desk.journal)[1:], [])
        self.assertEqual(names_of(Desk), [])
        self.assertEqual(names_of(desk_of), ["journal"])


if __name__ == "__main__":
    unittest.main()
