"""What single rows draw, as if the pen had the first frame, and the frames to which they lead it.

A leg is what the pen goes along: ("straight", p, q), also of alike points, or ("bend", c, p, q, way), way 1 to the
left and -1 to the right.
"""

from arcmill.arcs import arc
from arcmill.fractions import ONE, plus
from arcmill.frames import first, led
from arcmill.points import MIDDLE
from arcmill.stretches import stretch

NOTHING = (0, 1)


def at_place(place, turns):
    """The frame with a place and turns."""
    return (place, turns, 1, ONE)


def go_deed(row):
    """Straight ahead."""
    return side_deed(("side", row[1], NOTHING))


def side_deed(row):
    """Straight to a place."""
    place = (row[1], row[2])
    return (("straight", MIDDLE, place), at_place(place, 0))


def skip_deed(row):
    """Straight ahead, nothing drawn."""
    return (None, at_place((row[1], NOTHING), 0))


def dot_deed(row):
    """A dot where the pen is."""
    return (("straight", MIDDLE, MIDDLE), first())


def left_deed(row):
    """A quarter to the left."""
    return (None, at_place(MIDDLE, 1))


def round_deed(row):
    """Two quarters."""
    return (None, at_place(MIDDLE, 2))


def right_deed(row):
    """A quarter to the right."""
    return (None, at_place(MIDDLE, 3))


def mirror_deed(row):
    """What was left is right."""
    return (None, (MIDDLE, 0, -1, ONE))


def grow_deed(row):
    """All is so much greater."""
    return (None, (MIDDLE, 0, 1, row[1]))


def quarter_deed(row):
    """A quarter arc, to the right where its number is below 0."""
    a = row[1]
    if a[0] > 0:
        return (("bend", (NOTHING, a), MIDDLE, (a, a), 1), at_place((a, a), 1))
    place = ((-a[0], a[1]), a)
    return (("bend", (NOTHING, a), MIDDLE, place, -1), at_place(place, 3))


def half_deed(row):
    """A half arc, to the right where its number is below 0."""
    place = (NOTHING, plus(row[1], row[1]))
    return (("bend", (NOTHING, row[1]), MIDDLE, place, 1 if row[1][0] > 0 else -1), at_place(place, 2))


def arc_deed(row):
    """An arc to the left round a centre to a place, the turns staying."""
    place = (row[3], row[4])
    return (("bend", (row[1], row[2]), MIDDLE, place, 1), at_place(place, 0))


DEEDS = {
    "go": go_deed,
    "skip": skip_deed,
    "side": side_deed,
    "dot": dot_deed,
    "left": left_deed,
    "right": right_deed,
    "round": round_deed,
    "mirror": mirror_deed,
    "grow": grow_deed,
    "quarter": quarter_deed,
    "half": half_deed,
    "arc": arc_deed,
}


def deed_of(row):
    """The pair of the leg of a row without a block, or None, and the frame to which it leads from the first one."""
    deed = DEEDS[row[0]]
    return deed(row)


def piece_of(leg):
    """The piece that has the points of a leg."""
    if leg[0] == "straight":
        return stretch(leg[1], leg[2])
    if leg[4] == 1:
        return arc(leg[1], leg[2], leg[3])
    return arc(leg[1], leg[3], leg[2])


def led_leg(frame, leg):
    """The leg, led point by point."""
    if leg[0] == "straight":
        return ("straight", led(frame, leg[1]), led(frame, leg[2]))
    c, p, q = [led(frame, point) for point in leg[1:4]]
    # Mirrored, a way to the left goes to the right.
    return ("bend", c, p, q, leg[4] * frame[2])


def rows_within(row):
    """The rows of a block, None of a row without one."""
    if row[0] == "again":
        return row[2]
    return row[1] if row[0] == "keep" or row[0] == "ever" else None


def how_many_numbers(row):
    """How many numbers a row takes: one, or of a block its own, those of its rows and its end."""
    rows = rows_within(row)
    if rows is None:
        return 1
    return 2 + numbers_of_rows(rows)


def numbers_of_rows(rows):
    """How many numbers rows take."""
    return sum([how_many_numbers(row) for row in rows])


def how_many_rows(rows):
    """How many rows there are, those of blocks too, ends not counted."""
    many = len(rows)
    for row in rows:
        within = rows_within(row)
        if within is not None:
            many += how_many_rows(within)
    return many


def how_many_done(rows):
    """How many rows are done, those of an again each time, those of an ever once."""
    many = 0
    for row in rows:
        within = rows_within(row)
        if within is None:
            many += 1
        else:
            many += how_many_done(within) * (row[1] if row[0] == "again" else 1)
    return many


def draws(rows):
    """Whether rows draw a piece at least."""
    for row in rows:
        within = rows_within(row)
        if within is None:
            if deed_of(row)[0] is not None:
                return True
        elif draws(within) and (row[0] != "again" or row[1] > 0):
            return True
    return False
