"""Frames (place, turns, hand, size): they lead points and pieces about the plane."""

from arcmill.fractions import ONE, over, times
from arcmill.points import MIDDLE, grown, together, turned
from arcmill.stretches import stretch


def first():
    """The frame that leads each point to itself."""
    return (MIDDLE, 0, 1, ONE)


def led(frame, p):
    """The point that the frame leads p to."""
    place, turns, hand, size = frame
    held = (p[0], (hand * p[1][0], p[1][1]))
    return together(grown(turned(held, turns), size), place)


def behind(one, other):
    """The frame that leads each point to where the one leads what the other leads it to."""
    # A mirror turns about the way of the turns that it is behind.
    turns = (one[1] + one[2] * other[1]) % 4
    return (led(one, other[0]), turns, one[2] * other[2], times(one[3], other[3]))


def undone(frame):
    """The frame that leads back."""
    place, turns, hand, size = frame
    back = (MIDDLE, (-hand * turns) % 4, hand, over(ONE, size))
    # Led back, the place must come to the middle point.
    return (grown(led(back, place), (-1, 1)), back[1], back[2], back[3])


def led_piece(frame, piece):
    """The piece, led point by point."""
    points = [led(frame, p) for p in piece[1:]]
    if piece[0] == "stretch":
        return stretch(points[0], points[1])
    if piece[0] == "arc" and frame[2] == -1:
        # Mirrored, the way to the left goes to the right, so its ends change places.
        return ("arc", points[0], points[2], points[1])
    return (piece[0],) + tuple(points)
