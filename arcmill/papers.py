"""Papers: chains of one picture's pieces along those of another one, or a gap."""

from arcmill.arcs import arc, on
from arcmill.covers import cover_round, cover_stretch
from arcmill.few import chain
from arcmill.frames import led_piece
from arcmill.shifts import family, keeps_line, shift
from arcmill.slides import SlideCover
from arcmill.steps import stepped
from arcmill.stretches import stretch
from arcmill.ways import powers_between


class FixedCover:
    """What covers the rounds of a dot, an arc, a ring or a stretch whose line the map doesn't keep.

    It is told pairs of a number and a piece, of the goal's family where that is no dot, of still and of flow. All is
    seen from round 0 of the goal. Of each piece is kept (number, low, high, piece): by the powers from low to high it
    comes to lie there, on the dot or on the goal's carrier; the piece is told as it lies there then.
    """

    def __init__(self, kind, goal, stills, flows):
        self.kind = kind
        self.goal = goal
        self.stills = self.rows_of(stills)
        self.flows = self.rows_of(flows)

    def rows_of(self, pieces):
        """These tuples of pairs of a number and a piece."""
        rows = []
        for number, piece in pieces:
            if self.goal[0] == "dot":
                rows += [(number, low, high, self.goal) for low, high in self.powers_of(piece)]
            else:
                n = shift(self.kind, piece, self.goal)
                if n is not None:
                    rows.append((number, n, n, led_piece(stepped(self.kind, n), piece)))
        return rows

    def powers_of(self, piece):
        """Pairs of powers between which a piece is led to a dot."""
        p = self.goal[1]
        if self.kind[0] == "none" or (self.kind[0] == "smaller" and self.kind[1] == p):
            return [(0, 0)] if on(piece, p) else []
        return powers_between(self.kind, piece, p)

    def led_along(self, n, pure):
        """The chain for round n, of flow alone where it is pure, and None; or None and a gap in the goal."""
        rows = [(row[0], row[2] + n, row[3]) for row in self.flows if row[2] + n >= 0]
        if not pure:
            rows += [(row[0], 0, row[3]) for row in self.stills if row[1] <= -n <= row[2]]
        pieces = [row[2] for row in rows]
        numbers = chain(pieces, self.goal)
        if numbers is None:
            return (None, self.gap(pieces))
        return ([rows[k][:2] for k in numbers], None)

    def gap(self, pieces):
        """The pair of points between which none of the pieces covers the goal."""
        if self.goal[0] == "dot":
            return (self.goal[1], self.goal[1])
        numbers = list(range(len(pieces)))
        if self.goal[0] == "stretch":
            return cover_stretch(pieces, numbers, self.goal)[1]
        return cover_round(pieces, numbers, self.goal)[1]


def families_of(kind, pieces, number):
    """A dict of lists of pairs of a number and a piece by their families, all by None, counted from number on."""
    families = {None: []}
    for at, piece in enumerate(pieces):
        pair = (number + at, piece)
        families[None].append(pair)
        if piece[0] != "dot":
            families.setdefault(family(kind, piece), []).append(pair)
    return families


def cover_for(kind, goal, stills, flows):
    """What covers the rounds of a goal, of pieces of still and of flow told by their families."""
    own = family(kind, goal)
    if keeps_line(kind, goal):
        return SlideCover(kind, goal, stills.get(own, []), flows.get(own, []))
    return FixedCover(kind, goal, stills.get(own, []), flows.get(own, []))


def papers_of(kind, own, other):
    """A pair of lists: the papers of one's own picture's pieces, of the other one, and the holes of those without one.

    A hole is a pair of a round and a piece: led by that round, no point within the piece is on a piece of the other
    picture on its carrier.
    """
    stills = families_of(kind, other[0], 0)
    flows = families_of(kind, other[1], len(other[0]))
    papers = []
    holes = []
    for at, goal in enumerate(own[0] + own[1]):
        cover = cover_for(kind, goal, stills, flows)
        paper, hole = still_paper(cover) if at < len(own[0]) else flow_paper(cover)
        if paper is None:
            holes.append((hole[0], gap_piece(goal, hole[1])))
        else:
            papers.append(paper)
    return (papers, holes)


def still_paper(cover):
    """A pair: the chain for round 0, and None; or None and that round with its gap."""
    found, gap = cover.led_along(0, False)
    return (found, None) if found is not None else (None, (0, gap))


def flow_paper(cover):
    """A pair: the chains for round 0 and on, up to one of flow alone, and None; or None and a round with its gap."""
    chains = []
    while True:
        n = len(chains)
        found, gap = cover.led_along(n, True)
        if found is not None:
            return (chains + [found], None)
        found, gap = cover.led_along(n, False)
        if found is None:
            return (None, (n, gap))
        chains.append(found)


def gap_piece(goal, gap):
    """The piece of a gap between two points of a goal."""
    if goal[0] == "dot" or goal[0] == "stretch":
        return stretch(gap[0], gap[1])
    return arc(goal[1], gap[0], gap[1])
