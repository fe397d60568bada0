"""A point asked of a drawing."""

from arcmill.arcs import on
from arcmill.ends import span
from arcmill.frames import led, undone
from arcmill.movers import count, kind, power
from arcmill.steps import stepped_point
from arcmill.ways import powers_between


def asked(drawing, point):
    """What draws the point: ("still", k), ("end", e, k, n) or ("out", spans)."""
    still, ends = drawing
    k = number_on(still, point)
    if k is not None:
        return ("still", k)
    spans = []
    for e, end in enumerate(ends):
        spans.append(span(end, point))
        found = earliest(end, point)
        if found is not None:
            return ("end", e, found[1], found[0])
    return ("out", spans)


def number_on(rows, point):
    """The least number of a tuple (piece, row, rounds) whose piece has the point, or None."""
    for k, row in enumerate(rows):
        if on(row[0], point):
            return k
    return None


def end_has(end, n, point):
    """The least number of a piece of an end that has the point in round n, or None."""
    return number_on(end[3], led_back(end[0], n, point))


def led_back(frame, n, point):
    """The point that the n-th power of a map leads to a point."""
    many = count(frame)
    return stepped_point(kind(frame), -(n // many), led(undone(power(frame, n % many)), point))


def earliest(end, point):
    """The pair of the least round of an end that has the point and the least number of a piece there, or None."""
    sort = kind(end[0])
    many = count(end[0])
    if sort[0] == "round":
        found = rounds_that_have(end, many, point)
    elif sort[0] == "smaller" and sort[1] == point:
        # The map leads its middle to itself, so each round has it just where the first one does.
        found = rounds_that_have(end, 1, point)
    else:
        found = []
        for turn in range(many):
            back = led(undone(power(end[0], turn)), point)
            for k, row in enumerate(end[3]):
                found += [(n * many + turn, k) for n in first_meetings(sort, row[0], back)]
    return min(found) if found != [] else None


def rounds_that_have(end, many, point):
    """Pairs of a round and the least number of a piece that has the point then, of so many rounds."""
    found = [(n, end_has(end, n, point)) for n in range(many)]
    return [pair for pair in found if pair[1] is not None]


def first_meetings(sort, piece, point):
    """Numbers n from 0 on, the least such one among them, whose powers of a plain map lead the piece to the point."""
    found = []
    for start, stop in powers_between(sort, piece, point):
        n = 0 if start is None else max(0, start)
        if n <= stop:
            found.append(n)
    return found
