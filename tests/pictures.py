"""Pictures for the tests: looks at papers by the words of DOC.md 41 and 42, and drawings told otherwise."""

from fractions import Fraction

from arcmill.ends import reach
from arcmill.frames import led_piece
from arcmill.movers import count, kind, power
from tests.helpers import about, an_end, exact, exact_point, has, is_chain, point, some_piece, square, turn


def height(p, w):
    (x, y), (wx, wy) = exact_point(p), exact_point(w)
    return x * wx + y * wy


def in_round(end, n, p):
    """The numbers of the pieces of an end that have a point in a round."""
    frame = power(end[0], n)
    return [k for k, row in enumerate(end[3]) if has(led_piece(frame, row[0]), p)]


def point_shows(drawing, p, paper):
    """Whether a paper of the form of 31 shows what it says of a point."""
    still, ends = drawing
    if paper[0] == "still":
        return has(still[paper[1]][0], p)
    if paper[0] == "end":
        return paper[2] in in_round(ends[paper[1]], paper[3], p)
    if len(paper[1]) != len(ends) or any(has(row[0], p) for row in still):
        return False
    return all(out_shown(end, p, *pair) for end, pair in zip(ends, paper[1]))


def out_shown(end, p, start, stop):
    if start < 0 or not start <= stop <= start + 2000 or any(in_round(end, n, p) for n in range(start, stop)):
        return False
    sort, many = kind(end[0]), count(end[0])
    if sort[0] == "round":
        return start == 0 and stop >= many
    if sort[0] == "smaller":
        if p == sort[1]:
            return start == 0 and stop >= 1
        return start == 0 and exact(reach(end)) * exact(end[0][3]) ** (2 * stop) < square(p, sort[1])
    low, high = map(exact, reach(end))
    h, k = height(p, sort[1]), height(sort[1], sort[1]) / many
    return (start == 0 or high + (start - 1) * k < h) and low + stop * k > h


def common_frame(sort):
    """The plain map of a kind."""
    if sort[0] == "on":
        return (sort[1], 0, 1, (1, 1))
    return about(sort[1], 0, 1, exact(sort[2])) if sort[0] == "smaller" else None


def alike_shows(even, papers):
    """Whether papers show that the two pictures of an evened two have the same points."""
    sort, one, other = even
    return (picture_shown(sort, one, other, papers[0]) and picture_shown(sort, other, one, papers[1]))


class Rounds:
    """Pieces of a picture in their rounds, each led but once."""

    def __init__(self, sort, picture):
        self.frame, self.still, self.pieces = common_frame(sort), len(picture[0]), picture[0] + picture[1]
        self.deep, self.frames, self.led = sort[0] == "smaller", {}, {}

    def at(self, number, n):
        if n == 0:
            return self.pieces[number]
        if (number, n) not in self.led:
            if n not in self.frames:
                self.frames[n] = power(self.frame, n)
            self.led[number, n] = led_piece(self.frames[n], self.pieces[number])
        return self.led[number, n]

    def lets(self, chain):
        """Whether numbers and rounds of a chain are such as there are."""
        return (type(chain) is list and all(type(step) is tuple and len(step) == 2 for step in chain)
                and all(0 <= number < len(self.pieces) and n >= 0 and (n == 0 or number >= self.still)
                        and (n <= 2000 or not self.deep) for number, n in chain))


def picture_shown(sort, own, other, papers):
    mine, theirs = Rounds(sort, own), Rounds(sort, other)
    if type(papers) is not list or len(papers) != len(mine.pieces):
        return False
    for number, paper in enumerate(papers):
        if number < mine.still:
            chains = [paper]
        else:
            chains = paper
            if not chains or any(step[0] < theirs.still for step in chains[-1]):
                return False
        for n, chain in enumerate(chains):
            goal = mine.at(number, n)
            if not theirs.lets(chain) or not is_chain([theirs.at(*step) for step in chain], goal):
                return False
            if goal[0] == "stretch" and len(set(chain)) != len(chain):
                return False
    return True


def parts_of(chance, piece):
    """The piece told by others with the same points."""
    if piece[0] == "dot" or chance.random() < .4:
        return [piece] * chance.choice((1, 1, 1, 2))
    if piece[0] == "stretch":
        (ax, ay), (bx, by), share = exact_point(piece[1]), exact_point(piece[2]), Fraction(chance.randint(1, 4), 5)
        m = point(ax + share * (bx - ax), ay + share * (by - ay))
        return chance.choice(([("stretch", piece[1], m), ("stretch", m, piece[2])], [piece, ("stretch", m, piece[2])],
                              [("dot", m), piece], [("stretch", m, piece[2]), ("dot", m), ("stretch", piece[1], m)]))
    c, a = piece[1:3]
    (x, y), (cx, cy) = exact_point(a), exact_point(c)
    m = point(cx - (y - cy), cy + (x - cx))
    if piece[0] == "ring":
        return chance.choice(([("ring", c, m)], [("arc", c, a, m), ("arc", c, m, a)], [piece, ("arc", c, m, a)]))
    if turn(c, a, m) < turn(c, a, piece[3]):
        return [("arc", c, m, piece[3]), ("arc", c, a, m)]
    return [piece, ("dot", a)]


def told_otherwise(chance, drawing):
    """A drawing with the same points."""
    still = [part for row in drawing[0] for part in parts_of(chance, row[0])]
    ends = []
    for frame, _, _, rows in drawing[1]:
        pieces = [row[0] for row in rows]
        if kind(frame)[0] == "round":
            if chance.random() < .5:
                still += [led_piece(power(frame, n), piece) for n in range(count(frame)) for piece in pieces]
                continue
        else:
            for _ in range(chance.choice((0, 0, 1, 2))):
                still += pieces
                pieces = [led_piece(frame, piece) for piece in pieces]
            times = chance.choice((1, 1, 2, 3))
            pieces = [led_piece(power(frame, n), piece) for n in range(times) for piece in pieces]
            frame = power(frame, times)
        pieces = [part for piece in pieces for part in parts_of(chance, piece)]
        if len(pieces) > 1 and chance.random() < .3:
            ends.append((frame, pieces[1:]))
            pieces = pieces[:1]
        ends.append((frame, pieces))
    chance.shuffle(still)
    chance.shuffle(ends)
    return ([(piece, k, ()) for k, piece in enumerate(still)], [an_end(frame, pieces) for frame, pieces in ends])


def some_kin(chance, sort, most=3):
    """A drawing with ends of a kind, some of its pieces on the straight ways along which the map leads."""
    middle, w = point(1, 1), (2, 1)
    ends = []
    for _ in range(chance.randint(0 if sort == "none" else 1, 2)):
        if sort == "on":
            times = chance.randint(1, 2)
            frame = (point(w[0] * times, w[1] * times), 0, 1, (1, 1))
        elif sort == "smaller":
            frame = about(middle, chance.randint(0, 3), chance.choice((1, -1)), chance.choice((Fraction(1, 2),
                                                                                              Fraction(1, 4))))
        else:
            frame = about(middle, chance.randint(1, 3), 1, 1)
        ends.append((frame, [some_kin_piece(chance, middle, w) for _ in range(chance.randint(1, most))]))
    still = [some_kin_piece(chance, middle, w) for _ in range(chance.randint(0, most))]
    return ([(piece, k, ()) for k, piece in enumerate(still)], [an_end(frame, pieces) for frame, pieces in ends])


def some_kin_piece(chance, middle, w):
    if chance.random() < .5:
        return some_piece(chance, 4, 1)
    x, y = exact_point(middle)
    one, other = sorted(chance.sample([Fraction(k, 2) for k in range(-4, 9)], 2))
    p, q = point(x + one * w[0], y + one * w[1]), point(x + other * w[0], y + other * w[1])
    return chance.choice((("stretch", p, q), ("stretch", p, q), ("dot", p), ("ring", p, middle) if p != middle else
                          ("dot", q)))
