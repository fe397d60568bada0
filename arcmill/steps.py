"""Plain maps, told by their kinds, taken so many times, and the whole steps that come up to a number.

The i-th step of the kind on is the number i itself; of the kind smaller it is 1 divided by the size, i times.
"""

from arcmill.fractions import ONE, below, minus, over
from arcmill.frames import first
from arcmill.points import grown, off, together


def raised_whole(number, n):
    """A whole number taken n times, n from 0 on."""
    product = 1
    square = number
    left = n
    while left > 0:
        if left % 2 == 1:
            product = product * square
        left = left // 2
        if left > 0:
            square = square * square
    return product


def raised(number, n):
    """A fraction above 0 taken n times, below 0 divided by so often."""
    if n < 0:
        return (raised_whole(number[1], -n), raised_whole(number[0], -n))
    return (raised_whole(number[0], n), raised_whole(number[1], n))


def stepped(kind, n):
    """The n-th power of the plain map of a kind, below 0 of that map undone."""
    if kind[0] == "on":
        return (grown(kind[1], (n, 1)), 0, 1, ONE)
    if kind[0] == "smaller":
        size = raised(kind[2], n)
        # The middle is led to itself, which tells the place.
        return (grown(kind[1], minus(ONE, size)), 0, 1, size)
    return first()


def stepped_point(kind, n, p):
    """The point to which that power leads p."""
    # Seen from the middle only the size has many figures, so this is quicker than by the frame.
    if kind[0] == "on":
        return together(p, grown(kind[1], (n, 1)))
    if kind[0] == "smaller":
        return together(kind[1], grown(off(p, kind[1]), raised(kind[2], n)))
    return p


def stepped_piece(kind, n, piece):
    """The piece to which that power leads a piece."""
    # A plain map neither turns nor mirrors, so the order of the points stays.
    return (piece[0],) + tuple([stepped_point(kind, n, p) for p in piece[1:]])


def last_step(kind, number):
    """The greatest whole i whose step isn't above a number; of the kind smaller the number is above 0."""
    if kind[0] == "on":
        return number[0] // number[1]
    base = (kind[2][1], kind[2][0])
    if not below(number, ONE):
        return most_times(base, number)
    wanted = over(ONE, number)
    times_below = most_times(base, wanted)
    return -times_below if raised(base, times_below) == wanted else -times_below - 1


def first_step(kind, number):
    """The least whole i whose step isn't below a number; of the kind smaller the number is above 0."""
    if kind[0] == "on":
        return -(-number[0] // number[1])
    return -last_step(kind, over(ONE, number))


def most_times(base, number):
    """The greatest n such that the base, which is above 1, taken n times isn't above a number from 1 on."""
    squares = [base]
    while not below(number, squares[-1]):
        top, bottom = squares[-1]
        squares.append((top * top, bottom * bottom))
    n = 0
    product = ONE
    for top, bottom in reversed(squares):
        n = 2 * n
        grown_product = (product[0] * top, product[1] * bottom)
        if not below(number, grown_product):
            product = grown_product
            n += 1
    return n


def exact_step(kind, number):
    """The whole i whose step is a number, or None."""
    if kind[0] == "smaller" and number[0] <= 0:
        return None
    step = last_step(kind, number)
    return step if first_step(kind, number) == step else None
