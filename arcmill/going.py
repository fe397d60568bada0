"""The pen goes along the rows of a program: their move, and what they draw."""

from arcmill.errors import TooMuch
from arcmill.frames import behind, first, undone
from arcmill.movers import power
from arcmill.rows import deed_of, how_many_done, how_many_numbers, led_leg, piece_of

MOST_DONE = 300


def move(rows):
    """The frame to which rows lead from the first one."""
    frame = first()
    for row in rows:
        if row[0] == "again":
            frame = behind(frame, power(move(row[2]), row[1]))
        elif row[0] != "keep" and row[0] != "ever":
            frame = behind(frame, deed_of(row)[1])
    return frame


def drawn(program):
    """The drawing (still, ends) of a program."""
    still, ends = gone_along(program)
    return (pieces_of(still), [end[:3] + (pieces_of(end[3]),) for end in ends])


def pieces_of(rows):
    """The tuples (leg, row, rounds) with the pieces of their legs."""
    return [(piece_of(leg), row, rounds) for leg, row, rounds in rows]


def gone_along(program):
    """What a program draws, a drawing but for the legs that stand in it instead of their pieces."""
    if how_many_done(program) > MOST_DONE:
        raise TooMuch("the program does too many rows")
    still = []
    ends = []
    draw_rows(program, 0, first(), (), (still, ends))
    return (still, ends)


def draw_rows(rows, number, frame, rounds, sheet):
    """Puts what rows draw, the first of them of this number, on a sheet (legs, ends), and tells the frame behind."""
    at = number
    pen = frame
    for row in rows:
        pen = draw_row(row, at, pen, rounds, sheet)
        at += how_many_numbers(row)
    return pen


def draw_row(row, at, frame, rounds, sheet):
    """Puts what a row of a number draws on a sheet, and tells the frame behind it."""
    if row[0] == "again":
        pen = frame
        for n in range(row[1]):
            pen = draw_rows(row[2], at + 1, pen, rounds + (n,), sheet)
        return pen
    if row[0] == "keep":
        draw_rows(row[1], at + 1, frame, rounds, sheet)
        return frame
    if row[0] == "ever":
        legs = []
        stop = draw_rows(row[1], at + 1, frame, (), (legs, []))
        sheet[1].append((behind(stop, undone(frame)), at, rounds, legs))
        return frame
    leg, step = deed_of(row)
    if leg is not None:
        sheet[0].append((led_leg(frame, leg), at, rounds))
    return behind(frame, step)
