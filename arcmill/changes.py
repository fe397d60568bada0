"""Programs changed at a number, and the row of a number."""

from arcmill.errors import NoRow
from arcmill.programs import program_of
from arcmill.rows import how_many_numbers, numbers_of_rows, rows_within


def changed(program, number, rows):
    """The program with rows in the place of the row of a number, at a block's end behind its rows."""
    if number < 0 or number > numbers_of_rows(program):
        raise NoRow(number)
    return program_of(put_at(program, number, rows))


def put_at(own, number, rows):
    """One's own rows with others put at a number, which is counted from the first of one's own."""
    place, left = place_of(own, number)
    if place == len(own):
        return own + rows
    if left > 0:
        block = own[place]
        within = put_at(rows_within(block), left - 1, rows)
        return own[:place] + (block[:-1] + (within,),) + own[place + 1:]
    return own[:place] + rows + own[place + 1:]


def row_at(program, number):
    """The row of a number, a block with its rows, None of an end."""
    if number < 0 or number >= numbers_of_rows(program):
        raise NoRow(number)
    rows = program
    place, left = place_of(rows, number)
    while left > 0:
        rows = rows_within(rows[place])
        place, left = place_of(rows, left - 1)
    return rows[place] if place < len(rows) else None


def place_of(rows, number):
    """A pair: the place of the row that has a number or round which it stands, and how far behind its own that is.

    Behind all rows it is how many rows there are, and 0.
    """
    left = number
    for place, row in enumerate(rows):
        many = how_many_numbers(row)
        if left < many:
            return (place, left)
        left -= many
    return (len(rows), 0)
