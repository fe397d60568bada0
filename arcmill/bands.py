"""The area of what is inside straight legs, by level bands.

The legs are told with whole numbers: as edges (x, y, right, up, way) that rise from x, y by right and up, way 1 where
the leg goes up, -1 where it goes down. Numbers between may be pairs (top, bottom) that more than 1 divides both of:
they are held against each other alone, and to make them fractions would take longer.
"""

from arcmill.fractions import below, greatest_divisor, minus, over, plus, ratio, times
from arcmill.order import in_order
from arcmill.winding import is_in


def area_inside(legs, rule):
    """The area of all points that are inside closed straight legs by a rule."""
    scale = common_bottom(legs)
    edges = edges_of(legs, scale)
    heights = heights_of(edges)
    runs = [[] for edge in edges]
    for band in range(len(heights) - 1):
        for number, sign in borders(edges, middle_number(heights[band], heights[band + 1]), rule):
            put_band(runs[number], band, sign)
    whole = (0, 1)
    for edge, own in zip(edges, runs):
        for start, stop, sign in own:
            part = area_left_of(edge, fraction_of(heights[start]), fraction_of(heights[stop]))
            whole = plus(whole, times((sign, 1), part))
    return over(whole, (scale * scale, 1))


def common_bottom(legs):
    """A number that all bottoms of the legs' ends divide."""
    scale = 1
    for leg in legs:
        for x, y in leg[1:]:
            for bottom in (x[1], y[1]):
                scale = scale * (bottom // greatest_divisor(scale, bottom))
    return scale


def edges_of(legs, scale):
    """The edges of the legs that aren't level, all taken scale times."""
    edges = []
    for leg in legs:
        ax, ay, bx, by = [number[0] * (scale // number[1]) for p in leg[1:] for number in p]
        if ay < by:
            edges.append((ax, ay, bx - ax, by - ay, 1))
        elif by < ay:
            edges.append((bx, by, ax - bx, ay - by, -1))
    return edges


def heights_of(edges):
    """The heights, in order and none twice, of all ends of edges and of all points that two of them have in common."""
    found = []
    for number, edge in enumerate(edges):
        found += [(edge[1], 1), (edge[1] + edge[3], 1)]
        for other in edges[:number]:
            found += common_height(edge, other)
    heights = []
    for height in in_order(found, below):
        if heights == [] or below(heights[-1], height):
            heights.append(height)
    return heights


def common_height(one, other):
    """The height at which two edges cross, in a list; none where that isn't between the ends of both."""
    x, y, right, up, way = one
    other_x, other_y, other_right, other_up, other_way = other
    bottom = right * other_up - other_right * up
    if bottom == 0:
        return []
    top = (other_x - x) * up * other_up + y * right * other_up - other_y * other_right * up
    if bottom < 0:
        top, bottom = -top, -bottom
    low = max(y, other_y)
    high = min(y + up, other_y + other_up)
    return [(top, bottom)] if low * bottom < top < high * bottom else []


def middle_number(low, high):
    """A number of few figures between two, the one below the other: a whole one over 1, 2, 4, 8 and so on."""
    wide = high[0] * low[1] - low[0] * high[1]
    parts = 1 << max(0, (low[1] * high[1]).bit_length() - wide.bit_length() + 1)
    return (low[0] * parts // low[1] + 1, parts)


def borders(edges, height, rule):
    """Pairs (number, sign) of the edges between inside and outside at a height: 1 where inside is at the left."""
    met = []
    for number, edge in enumerate(edges):
        if edge[1] * height[1] < height[0] < (edge[1] + edge[3]) * height[1]:
            met.append((number, x_at(edge, height)))
    turns = 0
    found = []
    for number, x in in_order(met, lambda one, other: below(one[1], other[1])):
        before = is_in(rule, turns)
        turns -= edges[number][4]
        if before != is_in(rule, turns):
            found.append((number, 1 if before else -1))
    return found


def x_at(edge, height):
    """The pair of numbers of the x at which an edge comes to a height."""
    x, y, right, up, way = edge
    return (x * up * height[1] + (height[0] - y * height[1]) * right, up * height[1])


def put_band(runs, band, sign):
    """Puts a band to an edge's runs (start, stop, sign), to the last one where that goes on in it."""
    if runs != [] and runs[-1][1] == band and runs[-1][2] == sign:
        runs[-1] = (runs[-1][0], band + 1, sign)
    else:
        runs.append((band, band + 1, sign))


def fraction_of(height):
    """The fraction of a pair of numbers."""
    return ratio(height[0], height[1])


def area_left_of(edge, low, high):
    """The area between an edge and the line x 0, from one height to another one; below 0 where it is left of that."""
    x, y, right, up, way = edge
    below_low = minus(low, (y, 1))
    below_high = minus(high, (y, 1))
    slant = minus(times(below_high, below_high), times(below_low, below_low))
    return plus(times((x, 1), minus(high, low)), times(slant, ratio(right, 2 * up)))
