"""Rows and programs for the tests, and a pen that goes along them without the help of the program."""

from fractions import Fraction

from tests.helpers import exact, fraction, point


def row(word, *numbers):
    """A row of a word and numbers."""
    return (word, *[fraction(number) for number in numbers])


def again(n, *rows):
    return ("again", n, rows)


def keep(*rows):
    return ("keep", rows)


def ever(*rows):
    return ("ever", rows)


GO, LEFT, RIGHT, ROUND, MIRROR, DOT = row("go", 1), ("left",), ("right",), ("round",), ("mirror",), ("dot",)


class Pen:
    """Goes along rows in a way of its own: a place and where 1, 0 and 0, 1 lead to, with Python's own fractions."""

    def __init__(self):
        self.x, self.y, self.ahead, self.beside = Fraction(0), Fraction(0), (1, 0), (0, 1)
        self.still, self.ends, self.done, self.legs = [], [], 0, []

    def at(self, u, v):
        return (self.x + u * self.ahead[0] + v * self.beside[0], self.y + u * self.ahead[1] + v * self.beside[1])

    def frame(self):
        return (self.x, self.y, self.ahead, self.beside)

    def to(self, frame):
        self.x, self.y, self.ahead, self.beside = frame

    def mirrored(self):
        return self.ahead[0] * self.beside[1] - self.ahead[1] * self.beside[0] < 0

    def bend(self, c, p, q):
        c, p, q = [point(*self.at(*each)) for each in (c, p, q)]
        return ("ring", c, p) if p == q else ("arc", c, q, p) if self.mirrored() else ("arc", c, p, q)

    def leg(self, word, numbers, start):
        """What a row that drew went along, from a place to where the pen is."""
        p, q = point(*start), point(self.x, self.y)
        if word in ("go", "side", "dot"):
            return [("straight", p, q)] if p != q else []
        left = word == "arc" or numbers[0] > 0
        return [("bend", p, q, 1 if left != self.mirrored() else -1)]

    def turn(self, ahead, beside):
        (ax, ay), (bx, by) = self.ahead, self.beside
        self.ahead = (ahead[0] * ax + ahead[1] * bx, ahead[0] * ay + ahead[1] * by)
        self.beside = (beside[0] * ax + beside[1] * bx, beside[0] * ay + beside[1] * by)

    def straight(self, u, v):
        p, q = sorted((self.at(0, 0), self.at(u, v)))
        return ("dot", point(*p)) if p == q else ("stretch", point(*p), point(*q))

    def piece_and_step(self, word, numbers):
        """What a row draws; then the pen is where it leads."""
        a = numbers[0] if numbers else None
        place, turned, piece = (0, 0), 0, None
        if word in ("go", "side"):
            place = (a, numbers[1] if word == "side" else 0)
            piece = self.straight(*place)
        elif word == "skip":
            place = (a, 0)
        elif word == "dot":
            piece = self.straight(0, 0)
        elif word in ("left", "right", "round"):
            turned = {"left": 1, "right": 3, "round": 2}[word]
        elif word in ("quarter", "half"):
            place, turned = ((abs(a), a), 1 if a > 0 else 3) if word == "quarter" else ((0, 2 * a), 2)
            piece = self.bend((0, a), (0, 0), place) if a > 0 else self.bend((0, a), place, (0, 0))
        elif word == "arc":
            place = tuple(numbers[2:])
            piece = self.bend(tuple(numbers[:2]), (0, 0), place)
        self.x, self.y = self.at(*place)
        for _ in range(turned):
            self.turn((0, 1), (-1, 0))
        if word == "mirror":
            self.turn((1, 0), (0, -1))
        if word == "grow":
            self.turn((a, 0), (0, a))
        return piece

    def go(self, rows, number=0, rounds=(), into=None):
        into = self.still if into is None else into
        for each in rows:
            word, behind_word = each[0], each[1:]
            if word in ("again", "keep", "ever"):
                number = self.block(word, behind_word, number, rounds, into)
                continue
            numbers, start = [exact(part) for part in behind_word], (self.x, self.y)
            piece = self.piece_and_step(word, numbers)
            self.done += 1
            if piece is not None:
                into.append((piece, number, rounds))
                if into is self.still:
                    self.legs += self.leg(word, numbers, start)
            number += 1
        return number

    def block(self, word, rest, number, rounds, into):
        before, pieces = self.frame(), []
        if word == "again":
            behind_end = number + 1 + numbers_of(rest[1])
            for n in range(rest[0]):
                self.go(rest[1], number + 1, rounds + (n,), into)
            return behind_end + 1
        self.go(rest[0], number + 1, () if word == "ever" else rounds, pieces if word == "ever" else into)
        if word == "ever":
            self.ends.append((before, self.frame(), number, rounds, pieces))
        self.to(before)
        return number + 2 + numbers_of(rest[0])


def numbers_of(rows):
    return sum(2 + numbers_of(each[-1]) if each[0] in ("again", "keep", "ever") else 1 for each in rows)


def some_row(chance):
    a, b = [Fraction(chance.randint(-6, 6), chance.randint(1, 4)) for _ in range(2)]
    word = chance.choice(("go", "skip", "side", "dot", "left", "right", "round", "mirror", "grow", "quarter", "half", "arc"))
    if word in ("dot", "left", "right", "round", "mirror"):
        return (word,)
    if word in ("go", "skip"):
        return row(word, a)
    if word == "side":
        return row(word, a, b)
    if word == "arc":
        a = a or 1
        return row(word, a, b, *chance.choice(((0, 0), (2 * a, 2 * b), (a - b, b + a), (2 * a, 0))))
    return row(word, Fraction(chance.randint(1, 12), chance.randint(1, 12)) if word == "grow" else a or 1)


def some_rows(chance, deep, within_ever):
    """A tuple of rows, evers among them that may be none but for their form."""
    rows = []
    for _ in range(chance.randint(1, 4)):
        word = chance.choice(("row", "row", "row", "row", "again", "keep", "ever"))
        if word == "row" or deep == 0 or (word == "ever" and within_ever):
            rows.append(some_row(chance))
        elif word == "again":
            rows.append(again(chance.randint(0, 3), *some_rows(chance, deep - 1, within_ever)))
        else:
            rows.append((word, some_rows(chance, deep - 1, within_ever or word == "ever")))
    return tuple(rows)


def rows_of(row):
    return row[-1] if row[0] in ("again", "keep", "ever") else None


def size_of(rows):
    """The size of rows' move."""
    size = Fraction(1)
    for each in rows:
        if each[0] == "grow":
            size *= exact(each[1])
        elif each[0] == "again":
            size *= size_of(each[2]) ** each[1]
    return size


def mended(rows):
    """Rows, each ever among them put so that it is one: of a size that is let, and with a dot."""
    told = []
    for each in rows:
        if each[0] == "ever":
            within = ever(keep(*each[1]), DOT, row("go", 4)) if not let_size(size_of(each[1])) else ever(*each[1], DOT)
            told.append(within)
        elif rows_of(each) is not None:
            told.append(each[:-1] + (mended(each[-1]),))
        else:
            told.append(each)
    return tuple(told)


def let_size(size):
    return size <= Fraction(3, 4) or size == 1


def some_program(chance, deep=2):
    """A program that does at most three hundred rows and has at most sixty."""
    while True:
        program = mended(some_rows(chance, deep, False))
        if done_by(program) <= 300 and rows_in(program) <= 60:
            return program


def done_by(rows):
    """How many rows are done."""
    return sum(1 if rows_of(each) is None else done_by(each[-1]) * (each[1] if each[0] == "again" else 1) for each in rows)


def rows_in(rows):
    """How many rows there are, ends not counted."""
    return sum(1 if rows_of(each) is None else 1 + rows_in(each[-1]) for each in rows)
