"""Programs led by a frame."""

from arcmill.errors import NoNumber
from arcmill.forms import may_grow
from arcmill.programs import not_too_long

TURN_ROWS = ((), (("left",),), (("round",),), (("right",),))


def led_by(program, frame):
    """The program with rows ahead that lead the pen to a frame."""
    if not may_grow(frame[3]):
        raise NoNumber("no grow may have this size")
    return not_too_long(rows_to(frame) + program)


def rows_to(frame):
    """The rows that lead from the first frame to another one."""
    (x, y), turns, hand, size = frame
    rows = ()
    if x[0] != 0:
        rows += (("skip", x),)
    if y[0] != 0:
        rows += (("left",), ("skip", y), ("right",))
    rows += TURN_ROWS[turns]
    if hand == -1:
        rows += (("mirror",),)
    if size != (1, 1):
        rows += (("grow", size),)
    return rows
