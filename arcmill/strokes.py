"""The strokes of a program: lists of the legs that its pen goes along, each closed."""

from arcmill.going import gone_along


def strokes(program):
    """The strokes of what a program draws outside of evers."""
    told = []
    for leg in legs(program):
        if told == [] or end_of(told[-1][-1]) != start_of(leg):
            told.append([])
        told[-1].append(leg)
    return [closed(stroke) for stroke in told]


def legs(program):
    """The legs of what a program draws outside of evers; what is a dot is none."""
    found = [row[0] for row in gone_along(program)[0]]
    return [leg for leg in found if leg[0] == "bend" or leg[1] != leg[2]]


def start_of(leg):
    """The point where a leg begins."""
    return leg[1] if leg[0] == "straight" else leg[2]


def end_of(leg):
    """The point where a leg ends."""
    return leg[2] if leg[0] == "straight" else leg[3]


def closed(stroke):
    """The stroke, with one straight leg more where it doesn't end at its beginning."""
    start = start_of(stroke[0])
    stop = end_of(stroke[-1])
    return stroke if start == stop else stroke + [("straight", stop, start)]
