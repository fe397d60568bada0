"""Maps, which are frames, taken again and again."""

from arcmill.fractions import ONE, minus, over
from arcmill.frames import behind, first
from arcmill.points import MIDDLE, grown


def power(frame, n):
    """The n-th power of a map, n from 0 on."""
    whole = first()
    # Squares, for n may have sixty figures; powers of one map may be put together in any order.
    square = frame
    left = n
    while left > 0:
        if left % 2 == 1:
            whole = behind(square, whole)
        left = left // 2
        if left > 0:
            square = behind(square, square)
    return whole


def count(frame):
    """The least of 1, 2 and 4 whose power of the map has turns 0 and hand 1."""
    if frame[2] == -1 or frame[1] == 2:
        return 2
    return 1 if frame[1] == 0 else 4


def kind(frame):
    """The kind of a map of size 1 or below."""
    plain = power(frame, count(frame))
    w = plain[0]
    s = plain[3]
    if s != ONE:
        return ("smaller", grown(w, over(ONE, minus(ONE, s))), s)
    return ("round",) if w == MIDDLE else ("on", w)
