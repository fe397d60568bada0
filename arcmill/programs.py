"""Programs: tuples of rows, looked at row by row."""

from arcmill.errors import NoRow, TooMuch
from arcmill.forms import is_block, is_plain_row
from arcmill.fractions import ONE, below, times
from arcmill.rows import draws, how_many_done, how_many_rows, rows_within
from arcmill.steps import raised

MOST_ROWS = 60
MOST_BLOCKS = 4
MOST_IN_A_ROUND = 300
LEAST_CHANGE = (3, 4)


def program_of(rows):
    """The program of a tuple of what may be rows."""
    look_at_rows(rows, 0, ())
    return not_too_long(rows)


def not_too_long(program):
    """The program, where it hasn't too many rows."""
    if how_many_rows(program) > MOST_ROWS:
        raise TooMuch("the program has too many rows")
    return program


def look_at_rows(rows, number, around):
    """The number behind rows, the first of them of this number, within blocks of these words; NoRow of what is none."""
    at = number
    for row in rows:
        if is_plain_row(row):
            at += 1
        elif is_block(row) and has_room(row, around):
            behind = look_at_rows(rows_within(row), at + 1, around + (row[0],))
            if row[0] == "ever" and not can_go_on(row[1]):
                raise NoRow(at)
            at = behind + 1
        else:
            raise NoRow(at)
    return at


def has_room(block, around):
    """Whether a block may stand within blocks of these words."""
    return len(around) < MOST_BLOCKS and not (block[0] == "ever" and "ever" in around)


def can_go_on(rows):
    """Whether rows may be done without end."""
    # Only few rows can be multiplied at once, so how many there are is asked first.
    if how_many_done(rows) > MOST_IN_A_ROUND or not draws(rows):
        return False
    size = move_size(rows)
    return size == ONE or not below(LEAST_CHANGE, size)


def move_size(rows):
    """The size of the move of rows."""
    size = ONE
    for row in rows:
        if row[0] == "grow":
            size = times(size, row[1])
        elif row[0] == "again":
            size = times(size, raised(move_size(row[2]), row[1]))
    return size
