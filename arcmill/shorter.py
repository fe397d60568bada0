"""Programs told otherwise: with each again opened, or with fewer rows."""

from arcmill.errors import TooMuch
from arcmill.forms import may_grow
from arcmill.fractions import ONE, plus, times
from arcmill.programs import MOST_ROWS
from arcmill.rows import rows_within

TURNS = {"left": 1, "round": 2, "right": 3}
TURN_WORDS = (None, "left", "round", "right")
# Rows that draw nothing by themselves, so that nothing is lost where none is done behind them.
MOVING = ("skip", "left", "right", "round", "mirror", "grow")
STANDING = (("skip", (0, 1)), ("grow", (1, 1)))


def opened(program):
    """The program with the rows of each again so many times in its place."""
    # They are counted ahead, for there may be far more than can be told.
    if how_many_opened(program) > MOST_ROWS:
        raise TooMuch("the opened program has too many rows")
    return opened_rows(program)


def how_many_opened(rows):
    """How many rows there are where each again is opened."""
    many = 0
    for row in rows:
        within = rows_within(row)
        if row[0] == "again":
            many += row[1] * how_many_opened(within)
        else:
            many += 1 if within is None else 1 + how_many_opened(within)
    return many


def opened_rows(rows):
    """The rows with each again opened."""
    told = ()
    for row in rows:
        within = rows_within(row)
        if row[0] == "again":
            told += opened_rows(within) * row[1]
        else:
            told += (row if within is None else (row[0], opened_rows(within)),)
    return told


def shorter(program):
    """A program that draws the same points with no more rows, none of which could be spared at a glance."""
    return without_tail(shorter_rows(program))


def shorter_rows(rows):
    """The rows, their blocks made shorter, and neighbours put together."""
    told = []
    for row in rows:
        for each in without_block(row):
            put_behind(told, each)
    return tuple(told)


def without_block(row):
    """The rows that stand in the place of one: none, itself, its block made shorter, or that block's rows."""
    if row[0] == "again":
        within = shorter_rows(row[2]) if row[1] > 0 else ()
        if within == () or row[1] == 1:
            return within
        return (("again", row[1], within),)
    if row[0] == "keep":
        within = without_tail(shorter_rows(row[1]))
        return () if within == () else (("keep", within),)
    if row[0] == "ever":
        return (("ever", shorter_rows(row[1])),)
    return () if row in STANDING else (row,)


def put_behind(told, row):
    """Puts a row behind those told, together with the last of them where that can be."""
    both = in_one(told[-1], row) if told != [] else None
    if both is None:
        told.append(row)
        return
    told.pop()
    # What comes of two may go together with the one ahead of them, too.
    for each in both:
        put_behind(told, each)


def in_one(one, other):
    """The rows, one or none, that two neighbours come to; None where they stay."""
    if one[0] in TURNS and other[0] in TURNS:
        word = TURN_WORDS[(TURNS[one[0]] + TURNS[other[0]]) & 3]
        return () if word is None else ((word,),)
    if one[0] != other[0]:
        return None
    if one[0] == "mirror":
        return ()
    if one[0] == "dot":
        return (one,)
    if one[0] == "skip":
        return without_block(("skip", plus(one[1], other[1])))
    if one[0] == "grow" and may_grow(times(one[1], other[1])):
        return without_block(("grow", times(one[1], other[1])))
    return None


def without_tail(rows):
    """The rows up to the last one that isn't there for later rows alone."""
    many = len(rows)
    while many > 0 and rows[many - 1][0] in MOVING:
        many -= 1
    return rows[:many]
