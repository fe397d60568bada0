"""The looker: it reads papers and tells whether they show what they say; it draws nothing."""

from arcmill.arcs import ahead, on
from arcmill.asked import earliest, led_back, number_on
from arcmill.ends import reach, rise
from arcmill.few import same_carrier
from arcmill.forms import is_whole
from arcmill.fractions import below, plus, times
from arcmill.movers import count, kind
from arcmill.points import dot_product, far
from arcmill.steps import raised, stepped_piece

MOST_ROUND = 2000
# Kinds whose rounds are told without a bound.
FREE_KINDS = ("on", "none")


def point_shown(drawing, point, paper):
    """Whether a paper shows what it says of a point of a drawing."""
    if not isinstance(paper, tuple) or len(paper) < 2:
        return False
    if paper[0] == "still":
        return len(paper) == 2 and is_place(paper[1], drawing[0]) and on(drawing[0][paper[1]][0], point)
    if paper[0] == "end":
        return len(paper) == 4 and end_shown(drawing[1], point, paper)
    return paper[0] == "out" and len(paper) == 2 and out_shown(drawing, point, paper[1])


def is_place(thing, things):
    """Whether a thing is a number by which one of the things is told."""
    return is_whole(thing) and 0 <= thing < len(things)


def is_round(thing, sort):
    """Whether a thing is a round that may be told, by the kind of the map."""
    return is_whole(thing) and thing >= 0 and (sort[0] in FREE_KINDS or thing <= MOST_ROUND)


def end_shown(ends, point, paper):
    """Whether there is such a piece of an end, and the point is on it."""
    word, e, k, n = paper
    if not is_place(e, ends) or not is_place(k, ends[e][3]) or not is_round(n, kind(ends[e][0])):
        return False
    return on(ends[e][3][k][0], led_back(ends[e][0], n, point))


def out_shown(drawing, point, spans):
    """Whether no piece of still has the point, and no round of an end, by spans of all rounds that could."""
    still, ends = drawing
    if not isinstance(spans, list) or len(spans) != len(ends) or not all([is_span(each) for each in spans]):
        return False
    if number_on(still, point) is not None:
        return False
    for end, span in zip(ends, spans):
        # Where no round beside the span can have the point, none within has it just where none at all does.
        if not is_wide_enough(end, span, point) or earliest(end, point) is not None:
            return False
    return True


def is_span(thing):
    """Whether a thing is a pair of rounds that may be told."""
    if not isinstance(thing, tuple) or len(thing) != 2 or not is_whole(thing[0]) or not is_whole(thing[1]):
        return False
    return 0 <= thing[0] <= thing[1] <= thing[0] + MOST_ROUND


def is_wide_enough(end, span, point):
    """Whether no round of an end beside the span can have the point, or have it where none within does."""
    sort = kind(end[0])
    if sort[0] == "on":
        return is_wide_enough_on(end, sort[1], span, point)
    if span[0] != 0:
        return False
    if sort[0] == "round":
        return span[1] >= count(end[0])
    if sort[1] == point:
        return span[1] >= 1
    return below(times(reach(end), raised(end[0][3], 2 * span[1])), far(point, sort[1]))


def is_wide_enough_on(end, w, span, point):
    """Whether, of the kind on, all rounds ahead of the span are too low, and all behind it too high."""
    low, high = reach(end)
    step = rise(end[0], w)
    height = dot_product(point, w)
    if span[0] > 0 and not below(plus(high, times((span[0] - 1, 1), step)), height):
        return False
    return below(height, plus(low, times((span[1], 1), step)))


def alike_shown(even, papers):
    """Whether papers show that both pictures of an evened two have the same points."""
    sort, one, other = even
    if not isinstance(papers, tuple) or len(papers) != 2:
        return False
    ones = Rounds(sort, one)
    others = Rounds(sort, other)
    return picture_shown(ones, others, papers[0]) and picture_shown(others, ones, papers[1])


class Rounds:
    """The pieces of a picture, numbered, in their rounds."""

    def __init__(self, sort, picture):
        self.sort_of_map = sort
        self.many_still = len(picture[0])
        self.pieces = picture[0] + picture[1]
        self.kept = {}

    def piece_in(self, number, n):
        """The piece of a number in a round; it is kept, for many chains may tell it."""
        if (number, n) not in self.kept:
            self.kept[(number, n)] = stepped_piece(self.sort_of_map, n, self.pieces[number])
        return self.kept[(number, n)]

    def has_link(self, thing):
        """Whether a thing is a tuple (number, round) of a piece that there is."""
        if not isinstance(thing, tuple) or len(thing) != 2 or not is_place(thing[0], self.pieces):
            return False
        if thing[0] < self.many_still:
            return is_whole(thing[1]) and thing[1] == 0
        return is_round(thing[1], self.sort_of_map)

    def flows_on(self, links):
        """Whether all links are of flow, so that they hold in each later round, led on."""
        return all([link[0] >= self.many_still for link in links])


def picture_shown(own, other, papers):
    """Whether papers show that each point of one's own picture is one of the other."""
    if not isinstance(papers, list) or len(papers) != len(own.pieces):
        return False
    for number, paper in enumerate(papers):
        links_of_rounds = [paper] if number < own.many_still else paper
        if not isinstance(links_of_rounds, list) or links_of_rounds == []:
            return False
        for n, links in enumerate(links_of_rounds):
            if not chain_shown(own.piece_in(number, n), other, links):
                return False
        if number >= own.many_still and not other.flows_on(links_of_rounds[-1]):
            return False
    return True


def chain_shown(goal, other, links):
    """Whether links are a chain for a goal, of the other picture's pieces."""
    if not isinstance(links, list) or not all([other.has_link(link) for link in links]):
        return False
    if goal[0] == "stretch" and len(set(links)) != len(links):
        return False
    return is_chain(goal, [other.piece_in(link[0], link[1]) for link in links])


def is_chain(goal, pieces):
    """Whether pieces, one behind the other, lead along a goal."""
    if goal[0] == "dot":
        return len(pieces) == 1 and on(pieces[0], goal[1])
    if pieces == [] or not all([piece[0] != "dot" and same_carrier(goal, piece) for piece in pieces]):
        return False
    if goal[0] == "stretch":
        return leads_straight(goal, pieces)
    if pieces[0][0] == "ring":
        return len(pieces) == 1
    return leads_round(goal, pieces)


def leads_straight(goal, pieces):
    """Whether stretches of one line lead from a stretch's first end to its last one."""
    stand = goal[1]
    for piece in pieces:
        if not on(piece, stand):
            return False
        stand = piece[2]
    return on(pieces[-1], goal[2])


def leads_round(goal, pieces):
    """Whether arcs of one circle lead from an arc's or ring's first point to its last one, met on the last of them."""
    stand = goal[2]
    stop = goal[-1]
    left = len(pieces)
    for piece in pieces:
        if piece[0] == "ring" or piece[3] == stand or not on(piece, stand):
            return False
        left -= 1
        met = stand != stop and not ahead(piece[1], stand, piece[3], stop)
        if met != (left == 0):
            return False
        stand = piece[3]
    return True
