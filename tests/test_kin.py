"""Two drawings that are kin, and evened [37], [38]."""

import copy
import unittest
from fractions import Fraction

from arcmill.errors import NoKin, TooMuch
from arcmill.frames import first, led, led_piece
from arcmill.kin import evened
from arcmill.movers import count, kind, power
from tests.helpers import (LONG, a_drawing, about, exact, exact_point, fraction, has, is_piece, long_point, names_of,
                           point, some_piece, some_point, source, square)

MIDDLE = point(0, 0)


def dot(x, y=0):
    return ("dot", point(x, y))


def on(x, y=0):
    """The map that leads on by x, y."""
    return (point(x, y), 0, 1, (1, 1))


def smaller(top, bottom, turns=0, hand=1, middle=MIDDLE):
    return about(middle, turns, hand, Fraction(top, bottom))


def stretch(p, q):
    return ("stretch", *sorted((p, q), key=exact_point))


def slow_common(drawings):
    """The common plain map by the words of the document."""
    plain = [power(end[0], count(end[0])) for drawing in drawings for end in drawing[1] if kind(end[0]) != ("round",)]
    if not plain:
        return None
    if len({kind(frame)[0] for frame in plain}) > 1 or len({kind(frame)[1] for frame in plain
                                                            if kind(frame)[0] == "smaller"}) > 1:
        raise NoKin
    for n in range(1, 13):
        if all(any(power(frame, k) == power(plain[0], n) for k in range(1, 13)) for frame in plain):
            return power(plain[0], n)
    raise NoKin


def slow_picture(drawing, common):
    """The two lists of a drawing, ahead of what is put otherwise."""
    still, flow = [row[0] for row in drawing[0]], []
    for frame, _, _, rows in drawing[1]:
        plain, many, into = power(frame, count(frame)), count(frame), still
        if kind(frame) != ("round",):
            many, into = many * [k for k in range(1, 13) if power(plain, k) == common][0], flow
        for n in range(many):
            into += [led_piece(power(frame, n), row[0]) for row in rows]
    return still, flow


def slow_otherwise(still, flow, common):
    """The two lists with what is put otherwise for the kind smaller."""
    if common is None or kind(common)[0] != "smaller":
        return still, flow
    c = kind(common)[1]
    through = [piece for piece in still + flow if piece[0] == "stretch" and has(piece, c)]
    there = through or ("dot", c) in flow
    still = [piece for piece in still if piece not in through] + ([("dot", c)] if there else [])
    flow = [piece for piece in flow if piece not in through and piece != ("dot", c)]
    return still, flow + [stretch(e, led(common, e)) for piece in through for e in piece[1:] if e != c]


def slow_evened(one, other):
    common = slow_common([one, other])
    pictures = [slow_picture(drawing, common) for drawing in (one, other)]
    if any(len(still) + len(flow) > 300 for still, flow in pictures):
        raise TooMuch
    pictures = [slow_otherwise(still, flow, common) for still, flow in pictures]
    return (("none",) if common is None else kind(common), *pictures)


class Look(unittest.TestCase):
    def even(self, one, other):
        """The evened two, held against the words of the document."""
        told = evened(one, other)
        self.assertEqual(told, slow_evened(one, other))
        self.assertIs(type(told), tuple)
        for picture in told[1:]:
            self.assertIs(type(picture), tuple)
            for pieces in picture:
                self.assertIs(type(pieces), list)
                self.assertTrue(all(is_piece(piece) for piece in pieces))
        return told

    def no_kin(self, one, other):
        for pair in ((one, other), (other, one)):
            with self.assertRaises(NoKin):
                evened(*pair)
            with self.assertRaises(NoKin):
                slow_evened(*pair)

    def too_much(self, one, other):
        for pair in ((one, other), (other, one)):
            with self.assertRaises(TooMuch):
                evened(*pair)


class Kinds(Look):
    def test_no_ends(self):
        one, other = a_drawing([dot(1), dot(2)]), a_drawing([stretch(MIDDLE, point(1, 1))])
        self.assertEqual(self.even(one, other), (("none",), ([dot(1), dot(2)], []), ([stretch(MIDDLE, point(1, 1))], [])))
        self.assertEqual(self.even(a_drawing([]), a_drawing([])), (("none",), ([], []), ([], [])))

    def test_round_ends_are_told_round_by_round(self):
        one = a_drawing([dot(9)], [((MIDDLE, 1, 1, (1, 1)), [dot(1), dot(2)]), (first(), [dot(3)])])
        wanted = [dot(9), dot(1), dot(2), dot(0, 1), dot(0, 2), dot(-1), dot(-2), dot(0, -1), dot(0, -2), dot(3)]
        self.assertEqual(self.even(one, a_drawing([])), (("none",), (wanted, []), ([], [])))
        told = self.even(one, a_drawing([], [(on(1), [dot(0)])]))
        self.assertEqual(told, (("on", point(1, 0)), (wanted, []), ([], [dot(0)])))

    def test_one_map_on_both_sides(self):
        one, other = a_drawing([dot(5, 5)], [(on(2, 1), [dot(0)])]), a_drawing([], [(on(2, 1), [dot(2), dot(3)])])
        self.assertEqual(self.even(one, other), (("on", point(2, 1)), ([dot(5, 5)], [dot(0)]), ([], [dot(2), dot(3)])))

    def test_powers(self):
        one, other = a_drawing([], [(on(2), [dot(0), dot(1)])]), a_drawing([], [(on(3), [dot(0)])])
        wanted = (("on", point(6, 0)), ([], [dot(0), dot(1), dot(2), dot(3), dot(4), dot(5)]), ([], [dot(0), dot(3)]))
        self.assertEqual(self.even(one, other), wanted)
        self.assertEqual(self.even(other, one), (wanted[0], wanted[2], wanted[1]))
        one, other = a_drawing([], [(smaller(1, 4), [dot(64)])]), a_drawing([], [(smaller(1, 8), [dot(64)])])
        self.assertEqual(self.even(one, other), (("smaller", MIDDLE, (1, 64)), ([], [dot(64), dot(16), dot(4)]),
                                                 ([], [dot(64), dot(8)])))

    def test_counts(self):
        glide = (point(3, 0), 0, -1, (1, 1))
        one, other = a_drawing([], [(glide, [dot(0, 1)])]), a_drawing([], [(on(3), [dot(0, 1)])])
        self.assertEqual(self.even(one, other), (("on", point(6, 0)), ([], [dot(0, 1), dot(3, -1)]),
                                                 ([], [dot(0, 1), dot(3, 1)])))
        one = a_drawing([], [(smaller(1, 2, turns=1), [dot(16)])])
        other = a_drawing([], [(smaller(1, 4), [dot(16)])])
        self.assertEqual(self.even(one, other), (("smaller", MIDDLE, (1, 16)),
                                                 ([], [dot(16), dot(0, 8), dot(-4), dot(0, -2)]),
                                                 ([], [dot(16), dot(4)])))

    def test_ends_of_one_drawing_alone(self):
        one = a_drawing([], [(on(4), [dot(0)]), (on(6), [dot(1)])])
        wanted = [dot(0), dot(4), dot(8), dot(1), dot(7)]
        self.assertEqual(self.even(one, a_drawing([])), (("on", point(12, 0)), ([], wanted), ([], [])))
        self.assertEqual(self.even(a_drawing([]), one), (("on", point(12, 0)), ([], []), ([], wanted)))

    def test_a_power_by_12_and_by_more(self):
        one = a_drawing([], [(on(1), [dot(0)])])
        self.assertEqual(self.even(one, a_drawing([], [(on(12), [dot(0)])]))[0], ("on", point(12, 0)))
        self.assertEqual(self.even(a_drawing([], [(on(11), [dot(0)])]), a_drawing([], [(on(12), [dot(0)])]))[0],
                         ("on", point(132, 0)))
        self.no_kin(one, a_drawing([], [(on(13), [dot(0)])]))
        self.no_kin(a_drawing([], [(on(12), [dot(0)])]), a_drawing([], [(on(13), [dot(0)])]))
        # Each two have a common map, all three none.
        self.no_kin(a_drawing([], [(on(3), [dot(0)]), (on(4), [dot(0)])]), a_drawing([], [(on(5), [dot(0)])]))
        self.assertEqual(self.even(a_drawing([], [(on(3), [dot(0)]), (on(4), [dot(0)])]),
                                   a_drawing([], [(on(6), [dot(0)])]))[0], ("on", point(12, 0)))
        small, size = a_drawing([], [(smaller(1, 2), [dot(1)])]), Fraction(1, 2 ** 12)
        self.assertEqual(self.even(small, a_drawing([], [(about(MIDDLE, 0, 1, size), [dot(1)])]))[0][2], fraction(size))
        self.no_kin(small, a_drawing([], [(about(MIDDLE, 0, 1, size / 2), [dot(1)])]))
        self.no_kin(small, a_drawing([], [(smaller(1, 3), [dot(1)])]))

    def test_no_kin(self):
        right, up, left = [a_drawing([], [(frame, [dot(1)])]) for frame in (on(1), on(0, 1), on(-1))]
        small, beside = [a_drawing([], [(smaller(1, 2, middle=c), [dot(1)])]) for c in (MIDDLE, point(1, 0))]
        slant = a_drawing([], [(on(1, 1), [dot(1)])])
        for one, other in ((right, up), (right, left), (right, small), (small, beside), (right, slant)):
            self.no_kin(one, other)
            both = (one[0] + other[0], one[1] + other[1])
            self.no_kin(both, both)
            self.no_kin(both, a_drawing([]))
        # Refused as no kin also where there are too many pieces.
        self.no_kin((right[0] + [(dot(k), 0, ()) for k in range(301)], right[1]), up)

    def test_by_the_words(self):
        chance = source("kin")
        words = []
        for _ in range(300):
            maps = some_maps(chance)
            one, other = [a_drawing([some_piece(chance, 3, 1) for _ in range(chance.randint(0, 3))],
                                    [(maps(), [some_piece(chance, 3, 1) for _ in range(chance.randint(1, 3))])
                                     for _ in range(chance.randint(0, 2))]) for _ in range(2)]
            try:
                slow_common([one, other])
            except NoKin:
                self.no_kin(one, other)
            else:
                words.append(self.even(one, other)[0][0])
        self.assertTrue(all(words.count(word) > 30 for word in ("none", "on", "smaller")))


def some_maps(chance):
    """A def that makes maps, often kin ones."""
    sort, p, q = chance.randint(0, 3), some_point(chance, 3, 2), point(chance.randint(1, 3), chance.randint(-2, 2))
    if sort == 0:
        return lambda: on(*grown(exact_point(q), chance.randint(1, 4)))
    if sort == 1:
        return lambda: about(p, chance.randint(0, 3), chance.choice((1, -1)), Fraction(2, 3) ** chance.randint(1, 3))
    if sort == 2:
        return lambda: (some_point(chance, 3, 2), chance.randint(1, 3), 1, (1, 1))
    return lambda: (some_point(chance, 3, 1), chance.randint(0, 3), chance.choice((1, -1)),
                    chance.choice(((1, 1), (1, 2))))


def grown(pair, times):
    return (pair[0] * times, pair[1] * times)


class ThroughTheMiddle(Look):
    def test_stretches(self):
        half = smaller(1, 2)
        through, ending = stretch(point(-4, 0), point(2, 0)), stretch(MIDDLE, point(0, 8))
        one = a_drawing([dot(7), through, dot(1, 1)], [(half, [ending, dot(3, 3)])])
        told = self.even(one, a_drawing([]))
        self.assertEqual(told, (("smaller", MIDDLE, (1, 2)), (
            [dot(7), dot(1, 1), dot(0)],
            [dot(3, 3), stretch(point(-4, 0), point(-2, 0)), stretch(point(1, 0), point(2, 0)),
             stretch(point(0, 4), point(0, 8))]), ([], [])))

    def test_dots(self):
        half = smaller(1, 2)
        # A dot of flow goes to still; a dot of still alone stays where it is.
        self.assertEqual(self.even(a_drawing([dot(5)], [(half, [dot(0), dot(1), dot(0)])]), a_drawing([dot(0), dot(4)])),
                         (("smaller", MIDDLE, (1, 2)), ([dot(5), dot(0)], [dot(1)]), ([dot(0), dot(4)], [])))
        # One that is there already stays, and the other one is put behind it.
        self.assertEqual(self.even(a_drawing([dot(0), dot(5)], [(half, [dot(0)])]), a_drawing([]))[1],
                         ([dot(0), dot(5), dot(0)], []))

    def test_only_where_it_was_in_this_drawing(self):
        half, through = smaller(1, 2), stretch(point(-4, 0), point(2, 0))
        told = self.even(a_drawing([through]), a_drawing([through], [(half, [dot(1)])]))
        self.assertEqual(told[1], ([dot(0)], [stretch(point(-4, 0), point(-2, 0)), stretch(point(1, 0), point(2, 0))]))
        self.assertEqual(told[2], ([dot(0)], [dot(1)] + told[1][1]))
        told = self.even(a_drawing([dot(3)]), a_drawing([], [(half, [through])]))
        self.assertEqual(told[1], ([dot(3)], []))

    def test_by_the_common_map(self):
        told = self.even(a_drawing([], [(smaller(1, 2), [stretch(MIDDLE, point(8, 0))])]),
                         a_drawing([], [(smaller(1, 4), [dot(1)])]))
        self.assertEqual(told[1], ([dot(0)], [stretch(point(2, 0), point(8, 0)), stretch(point(1, 0), point(4, 0))]))

    def test_arcs_and_the_other_kinds_stay(self):
        ring, through = ("ring", point(1, 0), MIDDLE), stretch(point(-4, 0), point(2, 0))
        one = a_drawing([ring], [(smaller(1, 2), [ring, stretch(point(1, -1), point(1, 1))])])
        self.assertEqual(self.even(one, one)[1], ([ring], [ring, stretch(point(1, -1), point(1, 1))]))
        for maps in ([(on(1), [dot(0)])], []):
            self.assertEqual(self.even(a_drawing([through]), a_drawing([], maps))[1], ([through], []))


class TooManyPieces(Look):
    def test_just_three_hundred_and_one_more(self):
        dots = [dot(k) for k in range(301)]
        self.even(a_drawing(dots[:300]), a_drawing(dots[:300]))
        self.too_much(a_drawing(dots), a_drawing([]))
        self.even(a_drawing(dots[:290], [(on(300), dots[:10])]), a_drawing(dots[:300]))
        self.too_much(a_drawing(dots[:290], [(on(300), dots[:11])]), a_drawing([]))

    def test_rounds_are_counted(self):
        quarter = (MIDDLE, 1, 1, (1, 1))
        dots = [dot(k) for k in range(60)]
        self.even(a_drawing(dots[:60], [(quarter, dots)]), a_drawing([]))
        self.too_much(a_drawing(dots[:60] + [dot(99)], [(quarter, dots)]), a_drawing([]))
        self.even(a_drawing([], [(on(30), dots)]), a_drawing([], [(on(150), [dot(1)])]))
        self.too_much(a_drawing([], [(on(30), dots)]), a_drawing([], [(on(180), [dot(1)])]))

    def test_ahead_of_what_is_put_otherwise(self):
        through = stretch(point(-1, 0), point(1, 0))
        told = self.even(a_drawing([through] * 299, [(smaller(1, 2), [through])]), a_drawing([]))
        self.assertEqual([len(pieces) for pieces in told[1]], [1, 600])


class TooWide(Look):
    def test_just_wide_enough_and_more(self):
        for one, most in ((on(1), 300), (on(2), 600), ((point(3, 0), 0, -1, (1, 1)), 900)):
            drawing = a_drawing([], [(one, [dot(0)])])
            self.even(drawing, a_drawing([dot(most, 5)]))
            self.too_much(drawing, a_drawing([("dot", (fraction(most + Fraction(1, 9)), (0, 1)))]))
            # All rounds up to the count are told, so they count, too.
            last = exact(power(one, count(one) - 1)[0][0])
            self.even(drawing, a_drawing([dot(last - most)]))
            self.too_much(drawing, a_drawing([dot(last - most - 1)]))
            self.even(drawing, a_drawing([dot(0, 10 ** 9)]))

    def test_all_four_lists(self):
        right = on(1)
        self.even(a_drawing([dot(-100)], [(right, [dot(0)])]), a_drawing([dot(200)], [(right, [dot(100)])]))
        for one, other in (([dot(-101)], [dot(200)]), ([dot(-100)], [dot(201)])):
            self.too_much(a_drawing(one, [(right, [dot(0)])]), a_drawing(other, [(right, [dot(100)])]))
        self.too_much(a_drawing([], [(right, [dot(-100)])]), a_drawing([], [(right, [dot(201)])]))
        self.too_much(a_drawing([dot(-100), dot(201)]), a_drawing([], [(right, [dot(0)])]))

    def test_by_each_end(self):
        # The narrower step counts, though its rounds up to the wider one are told.
        self.even(a_drawing([], [(on(4), [dot(0)])]), a_drawing([dot(1200)]))
        self.too_much(a_drawing([], [(on(4), [dot(0)]), (on(2), [dot(0)])]), a_drawing([dot(1200)]))
        self.even(a_drawing([], [(on(4), [dot(0)]), (on(2), [dot(0)])]), a_drawing([dot(600)]))

    def test_arcs_by_their_room(self):
        # The centre at 290, and 6 and 8 put together at either side, though no point lies beyond 300.
        drawing = a_drawing([], [(on(1), [dot(0)])])
        self.too_much(drawing, a_drawing([("ring", point(290, 0), point(296, 8))]))
        self.even(drawing, a_drawing([("ring", point(290, 0), point(300, 0))]))
        self.even(drawing, a_drawing([("ring", point(286, 0), point(292, 8))]))


class TooDeep(Look):
    def test_just_deep_enough_and_more(self):
        near = fraction(1, 2 ** 299)
        for turns in (0, 1, 2):
            drawing = a_drawing([], [(smaller(1, 2, turns), [dot(1)])])
            self.even(drawing, a_drawing([("dot", (near, (0, 1)))]))
            # Just as near as 300 rounds lead it is not below.
            self.too_much(drawing, a_drawing([("dot", (fraction(1, 2 ** 300), (0, 1)))]))
            self.too_much(drawing, a_drawing([("dot", (fraction(1, 2 ** 301), (0, 1)))]))

    def test_all_four_lists(self):
        half, far_dot, near = smaller(1, 2), dot(2 ** 150), ("dot", (fraction(1, 2 ** 150), (0, 1)))
        for one, other in ((([near], []), ([far_dot], [])), (([], [near]), ([], [far_dot])),
                           (([near, far_dot], []), ([], [])), (([], [near, far_dot]), ([], []))):
            first_one = a_drawing(one[0], [(half, one[1] or [dot(1)])])
            self.too_much(first_one, a_drawing(other[0], [(half, other[1] or [dot(1)])]))

    def test_the_dot_in_the_middle_does_not_count(self):
        half = smaller(1, 2)
        self.even(a_drawing([dot(0)], [(half, [dot(1)])]), a_drawing([dot(0)]))
        self.even(a_drawing([], [(half, [dot(0)])]), a_drawing([dot(0)]))
        self.even(a_drawing([], [(half, [stretch(point(-1, 0), point(1, 0))])]), a_drawing([]))

    def test_what_is_nearest(self):
        half, low, lower = smaller(1, 2), Fraction(1, 2 ** 298), Fraction(1, 2 ** 301)
        drawing = a_drawing([], [(half, [dot(1)])])
        # A stretch comes near between its ends.
        self.even(drawing, a_drawing([stretch(point(-1, low), point(1, low))]))
        self.too_much(drawing, a_drawing([stretch(point(-1, lower), point(1, lower))]))
        self.too_much(drawing, a_drawing([stretch(point(lower, 0), point(1, 0))]))
        self.too_much(drawing, a_drawing([stretch(point(-1, 0), point(-lower, 0))]))
        self.even(drawing, a_drawing([stretch(point(low, 0), point(1, 0))]))
        # Of an arc or ring the radius is told instead, also where it goes through the middle.
        self.even(drawing, a_drawing([("ring", point(1, 0), MIDDLE)]))
        self.even(drawing, a_drawing([("ring", point(1, 0), point(lower, 0))]))
        self.even(drawing, a_drawing([("ring", MIDDLE, point(low, 0))]))
        self.too_much(drawing, a_drawing([("ring", MIDDLE, point(lower, 0))]))
        self.too_much(drawing, a_drawing([("ring", point(1, 0), point(1, lower))]))

    def test_what_is_farthest(self):
        drawing = a_drawing([], [(smaller(1, 2), [dot(1)])])
        # 2 (1 + 1) is as far as 2 is.
        ring = ("ring", point(1, 0), MIDDLE)
        self.even(drawing, a_drawing([ring, ("dot", (fraction(1, 2 ** 298), (0, 1)))]))
        self.too_much(drawing, a_drawing([ring, ("dot", (fraction(1, 2 ** 299), (0, 1)))]))
        self.too_much(drawing, a_drawing([stretch(point(1, 0), point(2, 0)), ("dot", (fraction(1, 2 ** 299), (0, 1)))]))

    def test_by_the_size_of_each_end(self):
        near = a_drawing([("dot", (fraction(1, 3 ** 200), (0, 1)))])
        self.even(a_drawing([], [(smaller(1, 9), [dot(1)])]), near)
        self.even(a_drawing([], [(smaller(1, 3), [dot(1)])]), near)
        self.too_much(a_drawing([], [(smaller(1, 3), [dot(1)])]), a_drawing([("dot", (fraction(1, 3 ** 301), (0, 1)))]))
        self.even(a_drawing([], [(smaller(1, 9), [dot(1)])]), a_drawing([("dot", (fraction(1, 3 ** 301), (0, 1)))]))
        self.too_much(a_drawing([], [(smaller(1, 9), [dot(1)]), (smaller(1, 3), [dot(1)])]),
                      a_drawing([("dot", (fraction(1, 3 ** 301), (0, 1)))]))


class Kept(Look):
    def test_many_figures(self):
        chance = source("long kin")
        w, c = long_point(chance), long_point(chance)
        p, q = sorted((long_point(chance), long_point(chance)), key=exact_point)
        one = a_drawing([("ring", p, q)], [((w, 0, 1, (1, 1)), [("dot", w)])])
        self.even(one, one)
        size = Fraction(LONG // 2, LONG)
        two, three = [power(about(c, 1, 1, size), n) for n in (2, 3)]
        one = a_drawing([("ring", p, q)], [(two, [("stretch", p, q)])])
        told = self.even(one, a_drawing([], [(three, [("dot", p)])]))
        self.assertEqual(told[0], ("smaller", c, fraction(size ** 12)))
        self.assertGreater(square(p, c), 0)

    def test_nothing_kept(self):
        drawing = a_drawing([stretch(point(-1, 0), point(1, 0))], [(smaller(1, 2), [dot(0), dot(1)])])
        same = copy.deepcopy(drawing)
        told = evened(drawing, drawing)
        self.assertEqual(drawing, same)
        again = copy.deepcopy(told)
        for picture in told[1:]:
            for pieces in picture:
                pieces.clear()
        self.assertEqual(evened(drawing, drawing), again)
        plain = a_drawing([dot(1)])
        evened(plain, plain)[1][0].append(dot(2))
        self.assertEqual(plain, a_drawing([dot(1)]))

    def test_arguments(self):
        self.assertEqual(names_of(evened), ["one", "other"])


if __name__ == "__main__":
    unittest.main()
