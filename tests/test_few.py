"""Carriers, joined pieces, alike lists and chains [22] to [25]."""

import unittest
from fractions import Fraction

from arcmill.few import alike_pieces, carrier, chain, joined
from tests.helpers import (exact_point, fraction, has, is_chain, is_piece, is_whole, long_number, long_point, names_of,
                           on_one_carrier, point, some_piece, source, spot, square)

MIDDLE = point(0, 0)


def level(low, high, y=0):
    """A stretch from left to right, or a dot."""
    return ("stretch", point(low, y), point(high, y)) if low != high else ("dot", point(low, y))


def bow(start, stop, places, c=MIDDLE):
    """The arc between two of the places of a circle, or its ring."""
    start, stop = start % len(places), stop % len(places)
    return ("ring", c, places[start]) if start == stop else ("arc", c, places[start], places[stop])


def places_round(many, centre=(0, 0), radius=5):
    """So many places of a circle, in the order of going to the left."""
    return [spot(k * 4 // many, Fraction(k * 4 % many, many), centre, radius) for k in range(many)]


def cells_of_line(pieces, at):
    """The cells that pieces have: 2 k is the k-th place, 2 k + 1 what lies between it and the next one."""
    cells = set()
    for piece in pieces:
        cells |= set(range(2 * at[piece[1]], 2 * at[piece[-1]] + 1))
    return cells


def runs_of(cells):
    """Cells put together to runs of neighbours: pairs of the first and the last one."""
    runs = []
    for cell in sorted(cells):
        if runs and runs[-1][1] == cell - 1:
            runs[-1][1] = cell
        else:
            runs.append([cell, cell])
    return runs


class Carrier(unittest.TestCase):
    def test_each_kind(self):
        self.assertIsNone(carrier(("dot", point(1, 2))))
        self.assertEqual(carrier(("stretch", point(0, 0), point(4, 2))), ("line", 1, -2, 0))
        self.assertEqual(carrier(("stretch", point(0, 1), point(0, 3))), ("line", 1, 0, 0))
        self.assertEqual(carrier(("arc", point(1, 1), point(4, 5), point(-3, 4))), ("circle", point(1, 1), (25, 1)))
        self.assertEqual(carrier(("ring", point(0, 0), ((1, 2), (1, 3)))), ("circle", MIDDLE, (13, 36)))

    def test_many_figures(self):
        chance = source("carrier")
        c, p = long_point(chance), long_point(chance)
        self.assertEqual(carrier(("ring", c, p)), ("circle", c, fraction(square(c, p))))


class JoinedOnALine(unittest.TestCase):
    def test_touching_overlapping_within_and_apart(self):
        self.assertEqual(joined([level(0, 1), level(1, 2)]), [level(0, 2)])
        self.assertEqual(joined([level(1, 3), level(0, 2)]), [level(0, 3)])
        self.assertEqual(joined([level(0, 5), level(1, 2)]), [level(0, 5)])
        self.assertEqual(joined([level(1, 2), level(0, 5)]), [level(0, 5)])
        self.assertEqual(joined([level(0, 5), level(0, 2), level(4, 5)]), [level(0, 5)])
        self.assertEqual(joined([level(3, 4), level(0, 1)]), [level(0, 1), level(3, 4)])
        self.assertEqual(joined([level(0, 2), level(1, 3), level(5, 6), level(3, 4)]), [level(0, 4), level(5, 6)])

    def test_other_lines_stay(self):
        upright = ("stretch", point(1, 0), point(1, 5))
        self.assertEqual(joined([level(0, 1), upright]), [level(0, 1), upright])
        self.assertEqual(joined([level(0, 1), level(1, 2, 1)]), [level(0, 1), level(1, 2, 1)])
        self.assertEqual(joined([upright, ("stretch", point(1, -2), point(1, 0))]), [("stretch", point(1, -2), point(1, 5))])

    def test_nothing_and_the_same_piece_twice(self):
        self.assertEqual(joined([]), [])
        for piece in (level(0, 1), level(2, 2), ("ring", MIDDLE, point(3, 4)),
                      ("arc", MIDDLE, point(3, 4), point(0, 5))):
            self.assertEqual(joined([piece]), [piece])
            self.assertEqual(joined([piece, piece, piece]), [piece])

    def test_dots(self):
        ring = ("ring", MIDDLE, point(3, 4))
        bow_piece = ("arc", MIDDLE, point(5, 0), point(0, 5))
        dots = [("dot", p) for p in (point(0, 0), point(2, 0), point(1, 0), point(3, 0), point(3, 4), point(5, 0))]
        self.assertEqual(joined(dots + [level(0, 2)]), [("dot", point(3, 0)), ("dot", point(3, 4)), ("dot", point(5, 0)),
                                                        level(0, 2)])
        self.assertEqual(joined([dots[4], ring, dots[5], dots[0]]), [dots[0], ring])
        self.assertEqual(joined([dots[4], bow_piece, dots[5], ("dot", point(-3, 4))]),
                         [bow_piece, ("dot", point(-3, 4))])
        # Two arcs that leave out one point between them can't be: arcs have their ends. A dot in a gap stays.
        self.assertEqual(joined([("dot", point(1, 0)), ("dot", point(1, 0))]), [("dot", point(1, 0))])

    def test_the_order_of_tuples(self):
        pieces = [("dot", point(2, 0)), ("dot", ((1, 3), (0, 1))), ("dot", ((1, 2), (0, 1))), ("dot", point(-1, 7)),
                  ("stretch", point(0, 9), point(10, 9)), ("stretch", point(0, 8), point(9, 8)),
                  ("ring", point(9, 9), point(9, 8)), ("arc", point(9, -9), point(10, -9), point(9, -8))]
        told = joined(pieces)
        self.assertEqual(told, sorted(pieces))
        # As tuples, 1/2 is ahead of 1/3.
        self.assertEqual(told[1:5], [("dot", point(-1, 7)), ("dot", ((1, 2), (0, 1))), ("dot", ((1, 3), (0, 1))),
                                     ("dot", point(2, 0))])

    def test_by_cells(self):
        chance = source("lines")
        for turn in range(150):
            start, way = exact_point(some_place(chance)), exact_point(some_place(chance))
            if way == (0, 0):
                continue
            places = sorted((point(start[0] + k * way[0], start[1] + k * way[1]) for k in range(9)), key=exact_point)
            at = {p: k for k, p in enumerate(places)}
            pieces = []
            for _ in range(chance.randint(1, 6)):
                low = chance.randint(0, 7)
                pieces.append(("stretch", places[low], places[chance.randint(low + 1, min(8, low + 3))]))
            dots = [("dot", chance.choice(places)) for _ in range(chance.randint(0, 3))]
            runs = runs_of(cells_of_line(pieces, at) | cells_of_line(dots, at))
            wanted = sorted(("stretch", places[low // 2], places[high // 2]) if low != high else ("dot", places[low // 2])
                            for low, high in runs)
            told = joined(pieces + dots)
            self.assertEqual(told, wanted)
            self.assertTrue(all(is_piece(piece) for piece in told))


def some_place(chance):
    return point(chance.randint(-5, 5), chance.randint(-5, 5))


class JoinedOnACircle(unittest.TestCase):
    def setUp(self):
        self.places = places_round(8)

    def bow(self, start, stop):
        return bow(start, stop, self.places)

    def test_touching_overlapping_within_and_apart(self):
        self.assertEqual(joined([self.bow(0, 1), self.bow(1, 3)]), [self.bow(0, 3)])
        self.assertEqual(joined([self.bow(1, 3), self.bow(0, 2)]), [self.bow(0, 3)])
        self.assertEqual(joined([self.bow(0, 5), self.bow(1, 2)]), [self.bow(0, 5)])
        self.assertEqual(joined([self.bow(1, 2), self.bow(0, 5)]), [self.bow(0, 5)])
        self.assertEqual(joined([self.bow(4, 5), self.bow(0, 1)]), sorted([self.bow(0, 1), self.bow(4, 5)]))

    def test_across_the_first_point_of_another_one(self):
        self.assertEqual(joined([self.bow(0, 2), self.bow(7, 1)]), [self.bow(7, 2)])
        self.assertEqual(joined([self.bow(0, 2), self.bow(6, 0)]), [self.bow(6, 2)])
        self.assertEqual(joined([self.bow(0, 1), self.bow(2, 3), self.bow(6, 2)]), [self.bow(6, 3)])
        self.assertEqual(joined([self.bow(0, 1), self.bow(2, 3), self.bow(4, 5), self.bow(6, 2)]),
                         sorted([self.bow(6, 3), self.bow(4, 5)]))

    def test_the_whole_circle(self):
        self.assertEqual(joined([self.bow(0, 4), self.bow(4, 0)]), [self.bow(0, 0)])
        self.assertEqual(joined([self.bow(4, 0), self.bow(0, 4)]), [self.bow(4, 4)])
        self.assertEqual(joined([self.bow(5, 3), self.bow(2, 6)]), [self.bow(5, 5)])
        self.assertEqual(joined([self.bow(3, 5), self.bow(0, 3), self.bow(5, 7), self.bow(7, 0)]), [self.bow(3, 3)])
        # All but what lies between two neighbours isn't the whole circle.
        self.assertEqual(joined([self.bow(0, 4), self.bow(4, 7)]), [self.bow(0, 7)])

    def test_rings(self):
        ring = self.bow(3, 3)
        self.assertEqual(joined([self.bow(1, 2), ring, self.bow(5, 6)]), [self.bow(1, 1)])
        self.assertEqual(joined([ring, self.bow(1, 2), self.bow(5, 5)]), [ring])
        self.assertEqual(joined([("dot", self.places[1]), ring, ("dot", MIDDLE)]), [("dot", MIDDLE), ring])
        wider = ("ring", MIDDLE, point(6, 0))
        self.assertEqual(joined([wider, ring, self.bow(0, 1)]), sorted([wider, ring]))
        beside = ("ring", point(1, 0), point(6, 0))
        self.assertEqual(joined([beside, wider]), sorted([beside, wider]))

    def test_by_cells(self):
        chance = source("circles")
        for many in (5, 8, 11):
            places = places_round(many, (3, -1), 2)
            c = point(3, -1)
            for _ in range(80):
                pieces, cells = [], set()
                for _ in range(chance.randint(1, 5)):
                    start, steps = chance.randint(0, many - 1), chance.randint(1, many - 1 if chance.random() < .3 else 3)
                    pieces.append(bow(start, start + steps, places, c))
                    cells |= {cell % (2 * many) for cell in range(2 * start, 2 * (start + steps) + 1)}
                self.assertEqual(joined(pieces), self.wanted(pieces, cells, places, c))

    def wanted(self, pieces, cells, places, c):
        many = len(places)
        free = [cell for cell in range(2 * many) if cell not in cells]
        if not free:
            return [("ring", c, pieces[0][2])]
        # Told from a free cell on, no run goes across the beginning.
        runs = runs_of({(cell - free[0]) % (2 * many) for cell in cells})
        back = [[(cell + free[0]) % (2 * many) // 2 for cell in run] for run in runs]
        return sorted(bow(start, stop, places, c) for start, stop in back)


class Alike(unittest.TestCase):
    def test_the_same_points_told_otherwise(self):
        places = places_round(8)
        self.assertTrue(alike_pieces([], []))
        self.assertTrue(alike_pieces([level(0, 2)], [level(1, 2), level(0, 1), ("dot", point(1, 0))]))
        self.assertTrue(alike_pieces([bow(0, 4, places), bow(4, 0, places)], [bow(3, 3, places)]))
        self.assertTrue(alike_pieces([bow(2, 2, places)], [bow(3, 3, places)]))

    def test_rings_told_with_other_points(self):
        # The order of the rings by their points is one in the one list and another one in the other.
        one = [("ring", MIDDLE, point(3, 4)), ("ring", MIDDLE, point(0, 1))]
        other = [("ring", MIDDLE, point(-5, 0)), ("ring", MIDDLE, point(0, 1))]
        self.assertTrue(alike_pieces(one, other))
        self.assertFalse(alike_pieces(one, other[:1]))
        self.assertFalse(alike_pieces(one[:1], [("ring", MIDDLE, point(6, 0))]))
        self.assertFalse(alike_pieces(one[:1], [("ring", point(1, 0), point(6, 0))]))

    def test_other_points(self):
        self.assertFalse(alike_pieces([level(0, 2)], [level(0, 1)]))
        self.assertFalse(alike_pieces([level(0, 2)], []))
        self.assertFalse(alike_pieces([level(0, 1)], [("dot", point(0, 0)), ("dot", point(1, 0))]))
        self.assertFalse(alike_pieces([("dot", point(0, 0))], [("dot", point(0, 1))]))
        places = places_round(8)
        self.assertFalse(alike_pieces([bow(0, 7, places)], [bow(0, 0, places)]))
        self.assertFalse(alike_pieces([bow(0, 3, places)], [bow(3, 0, places)]))

    def test_many_figures(self):
        chance = source("long lines")
        start, way = long_point(chance), long_point(chance)
        (x, y), (u, v) = exact_point(start), exact_point(way)
        at = [point(x + t * u, y + t * v) for t in sorted(long_number(chance) for _ in range(7))]
        at = sorted(at, key=exact_point)
        parts = [("stretch", at[k], at[k + 1]) for k in (3, 0, 5, 1, 4, 2)]
        self.assertEqual(joined(parts), [("stretch", at[0], at[6])])
        self.assertTrue(alike_pieces(parts, [("stretch", at[0], at[6])]))
        self.assertFalse(alike_pieces(parts[1:], [("stretch", at[0], at[6])]))
        self.assertEqual(len(chain(parts, ("stretch", at[0], at[6]))), 6)


class Chain(unittest.TestCase):
    def look(self, pieces, piece):
        """The told chain, looked at."""
        told = chain(pieces, piece)
        self.assertIs(type(told), list)
        self.assertTrue(all(is_whole(k) and 0 <= k < len(pieces) for k in told))
        self.assertTrue(is_chain([pieces[k] for k in told], piece), (pieces, piece, told))
        if piece[0] == "stretch":
            self.assertEqual(len(set(told)), len(told))
        return told

    def test_of_a_dot(self):
        ring = ("ring", MIDDLE, point(3, 4))
        self.assertEqual(chain([level(0, 1), ring], ("dot", point(0, 5))), [1])
        self.assertEqual(chain([level(0, 1), ("dot", point(7, 7))], ("dot", point(7, 7))), [1])
        self.assertEqual(chain([level(0, 1), ring], ("dot", point(1, 0))), [0])
        self.assertIsNone(chain([level(0, 1), ring], ("dot", point(2, 0))))
        self.assertIsNone(chain([], ("dot", point(2, 0))))

    def test_of_a_stretch(self):
        pieces = [level(4, 6), level(0, 1), level(0, 3, 1), level(1, 4), ("dot", point(2, 0))]
        self.assertEqual(self.look(pieces, level(0, 6)), [1, 3, 0])
        self.look(pieces, level(1, 4))
        self.look(pieces, ("stretch", point(2, 0), ((5, 2), (0, 1))))
        self.assertIsNone(chain(pieces, level(0, 7)))
        self.assertIsNone(chain(pieces, level(-1, 6)))
        self.assertIsNone(chain(pieces[1:], level(0, 6)))
        self.assertIsNone(chain([level(0, 1), level(2, 3)], level(0, 3)))
        self.assertIsNone(chain([level(-1, 0), level(1, 3)], level(0, 1)))
        self.assertIsNone(chain([], level(0, 1)))
        self.assertIsNone(chain([("dot", point(0, 0)), ("ring", MIDDLE, point(1, 0))], level(0, 1)))

    def test_its_only_piece(self):
        for piece in (level(0, 1), ("dot", point(1, 2)), ("ring", MIDDLE, point(3, 4)),
                      ("arc", MIDDLE, point(3, 4), point(5, 0))):
            self.assertEqual(chain([piece], piece), [0])
            self.assertIsNone(chain([], piece))
        self.assertEqual(chain([level(-5, 9)], level(0, 1)), [0])

    def test_of_an_arc_and_a_ring(self):
        places = places_round(8)
        arcs = [bow(6, 1, places), bow(0, 3, places), bow(3, 5, places), bow(5, 6, places)]
        self.look(arcs, bow(0, 0, places))
        for start in range(8):
            for stop in range(8):
                self.look(arcs, bow(start, stop, places))
        self.assertIsNone(chain(arcs[1:], bow(0, 0, places)))
        self.assertIsNone(chain(arcs[1:], bow(6, 1, places)))
        self.assertEqual(chain(arcs + [bow(7, 7, places)], bow(2, 2, places)), [4])
        self.assertEqual(self.look([bow(1, 0, places), bow(0, 1, places)], bow(4, 4, places)), [0, 1, 0])
        # One arc that ends at the first point, and no other one.
        self.assertIsNone(chain([bow(4, 0, places)], bow(0, 2, places)))
        self.assertIsNone(chain([bow(1, 0, places)], bow(0, 0, places)))
        self.assertIsNone(chain([("ring", MIDDLE, point(6, 0)), level(0, 5)], bow(0, 0, places)))

    def test_by_cells(self):
        chance = source("chains")
        places = places_round(9, (1, 1), 3)
        c = point(1, 1)
        none = 0
        for _ in range(300):
            pieces, cells = [], set()
            for _ in range(chance.randint(1, 6)):
                start, steps = chance.randint(0, 8), chance.randint(1, 5)
                pieces.append(bow(start, start + steps, places, c))
                cells |= {cell % 18 for cell in range(2 * start, 2 * (start + steps) + 1)}
            start, steps = chance.randint(0, 8), chance.randint(1, 9)
            goal = bow(start, start + steps, places, c)
            if all(cell % 18 in cells for cell in range(2 * start, 2 * (start + steps) + 1)):
                self.look(pieces, goal)
            else:
                self.assertIsNone(chain(pieces, goal))
                none += 1
        self.assertGreater(none, 50)

    def test_there_is_one_just_where_all_points_are_there(self):
        chance = source("chains of any pieces")
        for _ in range(60):
            pieces = [some_piece(chance, 3, 1) for _ in range(12)]
            for piece in pieces + joined(pieces):
                self.look(pieces, piece)
                others = [other for other in pieces if other != piece]
                alone = chain(others, piece) is None
                self.assertEqual(alone, not alike_pieces(others, others + [piece]))


class Kept(unittest.TestCase):
    def test_nothing_handed_in_is_changed(self):
        chance = source("kept")
        pieces = [some_piece(chance, 2, 1) for _ in range(20)]
        same = list(pieces)
        told = joined(pieces)
        alike_pieces(pieces, same)
        for piece in same:
            chain(pieces, piece)
        self.assertEqual(pieces, same)
        again = list(told)
        told.clear()
        self.assertEqual(joined(pieces), again)

    def test_the_joined_pieces_have_just_the_points(self):
        chance = source("points of pieces")
        for _ in range(40):
            pieces = [some_piece(chance, 3, 1) for _ in range(8)]
            told = joined(pieces)
            self.assertEqual(joined(told), told)
            for p in [p for piece in pieces + told for p in piece[1:]]:
                self.assertEqual(any(has(piece, p) for piece in pieces), any(has(piece, p) for piece in told))
            for at, piece in enumerate(told):
                for other in told[:at]:
                    self.assertFalse(on_one_carrier(piece, other) and (has(piece, other[-1]) or has(other, piece[-1])))

    def test_three_hundred_pieces(self):
        self.assertEqual(joined([level(k, k + 1) for k in range(300)]), [level(0, 300)])
        self.assertEqual(len(joined([level(2 * k, 2 * k + 1) for k in range(300)])), 300)
        self.assertEqual(chain([level(k, k + 1) for k in range(300)], level(0, 300)), list(range(300)))


class Interface(unittest.TestCase):
    def test_arguments(self):
        self.assertEqual(names_of(carrier), ["piece"])
        self.assertEqual(names_of(joined), ["pieces"])
        self.assertEqual(names_of(alike_pieces), ["one", "other"])
        self.assertEqual(names_of(chain), ["pieces", "piece"])


if __name__ == "__main__":
    unittest.main()
