"""Points 97, 99, 100 and 102 and the interface of hiddensorts/across.py."""

import itertools
import random
import unittest
from fractions import Fraction

from hiddensorts.across import across_factor, drawn_where, one_teller
from hiddensorts.apart import is_sure, telling
from hiddensorts.bounds import chance_ends
from hiddensorts.curves import curve_of
from hiddensorts.drawings import Drawing, drawing_for, drawn_sights, told_drawing
from hiddensorts.errors import BadLook, BadNumber, NoFair, OtherPiece, OtherSide
from hiddensorts.frames import frame_of
from hiddensorts.loose import world_at
from hiddensorts.sights import Sights
from hiddensorts.tilts import Tilts
from hiddensorts.untold import factor_ends
from hiddensorts.webs import Web
from tests.oracles import beside
from tests.shares import chances_by_hand, random_drawing, ratios_of
from tests.test_cutting import with_links
from tests.test_drawings import many_pieces
from tests.test_frames import RING, TREES, many_sights
from tests.test_meeting import skewed
from tests.tools import FAR, HALF, NEAR, NO_INTEGERS, fraction, random_world, ratio, rows

CHAIN = [((0, 1), FAR), ((1, 2), NEAR)]


def is_drawn(world, look, other):
    """Whether other is drawn from look in a world, in some way."""
    one, two = [ratios_of(chances_by_hand(world, (at,))) for at in (look, other)]
    return drawing_for(one, two) is not None


def sided_pieces():
    for sights in many_sights(TREES, 10):
        yield frame_of(sights, 0)
    for sights, number in many_pieces():
        if not Web(sights).is_ringed(number):
            yield frame_of(sights, number)
    for m, c in ((Fraction(1, 3), 2), (Fraction(1, 2), 1), (Fraction(1, 4), 3)):
        yield skewed(m, c)


def places(frame):
    """Coordinates of worlds at and between the corners of an oblong, and of some that are not fair."""
    s_low, s_high, t_low, t_high = [fraction(end) for end in (frame.s_low, frame.s_high, frame.t_low, frame.t_high)]
    for s in (s_low, s_high, (s_low + s_high) / 2, s_low * 2 / 3, s_high * 3 / 2):
        for t in (t_low, t_high, (t_low + 3 * t_high) / 4, t_low / 2):
            yield s, t


class AcrossFactorTest(unittest.TestCase):

    def test_drawn_exactly_from_this_factor_on(self):
        words = []
        for frame in sided_pieces():
            tilts = frame.tilts
            for i, j in itertools.product(*tilts.sides):
                there, back = across_factor(tilts, i, j), across_factor(tilts, j, i)
                self.assertEqual(there, curve_of(tilts, i).least_factor(curve_of(tilts, j)))
                there, back = fraction(there), fraction(back)
                self.assertGreaterEqual(there * back, 1)
                for s, t in list(places(frame))[::3]:
                    world = world_at(tilts, ratio(s), ratio(t))
                    self.assertEqual(is_drawn(world, i, j), s * t >= there)
                    self.assertEqual(is_drawn(world, j, i), s * t <= 1 / back)
                    words.append((s * t >= there, s * t <= 1 / back))
                for factor in (there, 1 / back):
                    world = world_at(tilts, ratio(factor), 1)
                    self.assertEqual((is_drawn(world, i, j), is_drawn(world, j, i)),
                                     (factor >= there, factor <= 1 / back))
        self.assertLessEqual({(True, False), (False, True)}, set(words))

    def test_one_line_is_the_other_times_a_factor(self):
        tilts = Tilts(Sights([HALF] * 3, seen=CHAIN), 0)
        for i, j in ((0, 1), (1, 0), (1, 2), (2, 1)):
            one, two = fraction(across_factor(tilts, i, j)), fraction(across_factor(tilts, j, i))
            self.assertEqual(one * two, 1)
        tilts = Tilts(random_world(9500, (3, 4), 2, low=1).sights_of([(0, 1)]), 0)
        product = fraction(across_factor(tilts, 0, 1)) * fraction(across_factor(tilts, 1, 0))
        self.assertGreater(product, 1)

    def test_refuses(self):
        sided = Tilts(beside(Sights([HALF] * 3, seen=CHAIN), Sights([HALF] * 2, seen=[((0, 1), FAR)])), 0)
        ringed = Tilts(beside(Sights([HALF] * 3, seen=RING), Sights([HALF] * 2)), 0)
        for tilts in (sided, ringed):
            for look in NO_INTEGERS + [5, -1]:
                for pair in ((look, 0), (0, look), (look, 4), (4, look)):
                    with self.assertRaises(BadLook):
                        across_factor(tilts, *pair)
            for look in (0, 4):
                with self.assertRaises(BadLook):
                    across_factor(tilts, look, look)
            for pair in ((0, 3), (4, 1), (3, 4)):
                with self.assertRaises(OtherPiece):
                    across_factor(tilts, *pair)
            with self.assertRaises(OtherSide):
                across_factor(tilts, 0, 2)
        for pair in itertools.permutations(range(3), 2):
            with self.assertRaises(OtherSide):
                across_factor(ringed, *pair)


class DrawnWhereTest(unittest.TestCase):

    def test_across_the_sides(self):
        words = []
        for frame in sided_pieces():
            tilts = frame.tilts
            low, high = [fraction(end) for end in factor_ends(frame)]
            for i, j in itertools.product(*tilts.sides):
                there = fraction(across_factor(tilts, i, j))
                back = 1 / fraction(across_factor(tilts, j, i))
                found = drawn_where(frame, i, j), drawn_where(frame, j, i)
                self.assertEqual(found[0], "all" if low >= there else "none" if high < there else "some")
                self.assertEqual(found[1], "all" if high <= back else "none" if low > back else "some")
                corners = [frame.corner(0, 0), frame.corner(1, 1)]
                drawn = {"all": [True, True], "none": [False, False], "some": [False, True]}
                self.assertEqual([is_drawn(world, i, j) for world in corners], drawn[found[0]])
                self.assertEqual([is_drawn(world, j, i) for world in corners], drawn[found[1]][::-1])
                words += list(found)
        self.assertEqual(set(words), {"all", "some", "none"})
        self.assertGreater(min(words.count(word) for word in set(words)), 2)

    def test_within_a_side_and_in_rings(self):
        words = []
        for sights, number in many_pieces():
            frame, web = frame_of(sights, number), Web(sights)
            for i, j in itertools.permutations(frame.tilts.looks, 2):
                if web.walk(i, j, False) is not None:
                    word = drawn_where(frame, i, j)
                    self.assertEqual(word, "none" if told_drawing(sights, i, j) is None else "all")
                    words.append((word, frame.ringed))
        self.assertEqual(set(words), set(itertools.product(("all", "none"), (True, False))))

    def test_example(self):
        frame = frame_of(Sights([HALF] * 2, seen=[((0, 1), FAR)]), 0)
        self.assertEqual([across_factor(frame.tilts, 0, 1), drawn_where(frame, 0, 1)], [(1, 4), "some"])

    def test_factors_at_the_ends(self):
        # One fair world is left: its factor is both ends.
        frame = frame_of(Sights([HALF] * 2, seen=[((0, 1), [(1, 2), 0, 0, (1, 2)])]), 0)
        self.assertEqual((drawn_where(frame, 0, 1), drawn_where(frame, 1, 0)), ("all", "all"))
        # Side A has the tilts 1 and 1/2, side B 1/2 and 1/4; the factor goes from 1/4 to 1.
        seen = [(pair, [ratio((1 + sign * link) / 4) for sign in (1, -1, -1, 1)])
                for pair, link in (((0, 1), Fraction(1, 2)), ((1, 2), Fraction(1, 4)), ((0, 3), Fraction(1, 4)))]
        frame = frame_of(Sights([HALF] * 4, seen=seen), 0)
        self.assertEqual((frame.tilts.sides, factor_ends(frame)), (((0, 2), (1, 3)), ((1, 4), (1, 1))))
        # Where the least factor is the first one, all worlds draw; where it is the last one, the corner (1, 1) does.
        self.assertEqual((across_factor(frame.tilts, 0, 3), drawn_where(frame, 0, 3)), ((1, 4), "all"))
        self.assertEqual((across_factor(frame.tilts, 2, 1), drawn_where(frame, 2, 1)), ((1, 1), "some"))
        self.assertEqual((across_factor(frame.tilts, 1, 2), drawn_where(frame, 1, 2)), ((1, 1), "all"))
        self.assertEqual((across_factor(frame.tilts, 3, 0), drawn_where(frame, 3, 0)), ((4, 1), "some"))

    def test_refuses(self):
        sided = frame_of(beside(Sights([HALF] * 3, seen=CHAIN), Sights([HALF] * 2, seen=[((0, 1), FAR)])), 0)
        ringed = frame_of(beside(Sights([HALF] * 3, seen=RING), Sights([HALF] * 2)), 0)
        for frame in (sided, ringed):
            for look in NO_INTEGERS + [5, -1]:
                for pair in ((look, 0), (0, look), (look, 4), (4, look)):
                    with self.assertRaises(BadLook):
                        drawn_where(frame, *pair)
            for look in (0, 4):
                with self.assertRaises(BadLook):
                    drawn_where(frame, look, look)
            for pair in ((0, 3), (4, 1), (3, 4)):
                with self.assertRaises(OtherPiece):
                    drawn_where(frame, *pair)


class OneTellerTest(unittest.TestCase):

    def test_by_definition(self):
        found = []
        for sights, number in many_pieces():
            tilts = Tilts(sights, number)
            for side, looks in enumerate(tilts.sides[:1] if tilts.ringed else tilts.sides):
                tellers = [look for look in looks
                           if all(other == look or told_drawing(sights, look, other) for other in looks)]
                found.append(one_teller(tilts, side))
                self.assertEqual(found[-1], tellers[0] if tellers else None)
        self.assertIn(None, found)
        self.assertGreater(len(set(found)), 2)

    def test_refuses(self):
        sided, ringed = Tilts(Sights([HALF] * 3, seen=CHAIN), 0), Tilts(Sights([HALF] * 3, seen=RING), 0)
        for side in NO_INTEGERS + [2, -1, (0, 1)]:
            for tilts in (sided, ringed):
                with self.assertRaises(BadNumber):
                    one_teller(tilts, side)
        with self.assertRaises(BadNumber):
            one_teller(ringed, 1)
        self.assertEqual((one_teller(sided, 0), one_teller(sided, 1), one_teller(ringed, 0)), (2, 1, 0))

    def test_greatest_and_least_tilts(self):
        for sights, number in many_pieces():
            tilts = Tilts(sights, number)
            if tilts.ringed:
                continue
            heights = tilts.heights()
            for side, looks in enumerate(tilts.sides):
                teller = one_teller(tilts, side)
                if teller is None:
                    continue
                curve = curve_of(tilts, teller)
                values = [fraction(tilt) for tilt in curve.tilts]
                self.assertEqual((ratio(max(values)), ratio(-min(values))), heights[2 * side:2 * side + 2])

    def without_side(self, sights, looks, kept):
        """The sights without the looks, but for the kept one."""
        for look in sorted(looks, reverse=True):
            if look != kept:
                sights = sights.without(look)
        return sights

    def test_the_other_looks_of_the_side_are_left_out(self):
        # Point 102.
        source, kinds = random.Random(9510), []
        for turn in range(24):
            sights = many_sights(TREES, 12)[turn % 12]
            tilts = Tilts(sights, 0)
            side = turn % 2
            look = tilts.sides[side][-1]
            sights = drawn_sights(sights, look, Drawing(random_drawing(source, 3, sights.sizes[look], gaps=0)))
            tilts = Tilts(sights, 0)
            teller = one_teller(tilts, side)
            if teller is None:
                continue
            less = self.without_side(sights, tilts.sides[side], teller)
            if [len(piece) for piece in Web(less).pieces] != [len(tilts.sides[1 - side]) + 1]:
                continue
            kinds.append(self.check(sights, less, teller, tilts.sides[side]))
        self.assertLessEqual({"same", "turned"}, set(kinds))

    def check(self, sights, less, teller, gone):
        old, new = frame_of(sights, 0), frame_of(less, 0)
        if old.tilts.base[0] not in gone or old.tilts.base[0] == teller:
            self.assertEqual((new.s_low, new.s_high, new.t_low, new.t_high),
                             (old.s_low, old.s_high, old.t_low, old.t_high))
            return "same"
        base = self.old_number(new.tilts.base[0], gone, teller)
        ends = chance_ends(old)
        if old.tilts.leaning((base, new.tilts.base[1])) < 0:
            ends = tuple(ratio(1 - fraction(end)) for end in ends[::-1])
        self.assertEqual(chance_ends(new), ends)
        return "turned" if old.tilts.leaning((base, new.tilts.base[1])) < 0 else "kept"

    def old_number(self, look, gone, teller):
        left = [old for old in range(8) if old == teller or old not in gone]
        return left[look]

    def test_two_tellers(self):
        many = 0
        for frame in sided_pieces():
            tilts = frame.tilts
            tellers = [one_teller(tilts, side) for side in range(2)]
            if None in tellers:
                continue
            i, j = sorted(tellers)
            table = tilts.told_table(i, j)
            self.assertTrue(table.fair)
            alone = Sights([frame.sights.singles[i], frame.sights.singles[j]], seen=[((0, 1), table.entries)])
            found = frame_of(alone, 0)
            base = ((i, j)[found.tilts.base[0]], found.tilts.base[1])
            ends = chance_ends(frame)
            if tilts.leaning(base) < 0:
                ends = tuple(ratio(1 - fraction(end)) for end in ends[::-1])
            self.assertEqual(chance_ends(found), ends)
            many += 1
        self.assertGreater(many, 5)

    def test_a_piece_without_a_frame(self):
        sights = Sights([HALF] * 4, seen=[((0, 1), NEAR), ((1, 2), FAR), ((2, 3), NEAR)])
        tilts = Tilts(sights, 0)
        i, j = one_teller(tilts, 0), one_teller(tilts, 1)
        self.assertFalse(tilts.told_table(i, j).fair)
        with self.assertRaises(NoFair):
            frame_of(sights, 0)


class WhoDrawsWhatTest(unittest.TestCase):
    """Point 97."""

    def test_the_lot_of_two_looks_is_drawn_from_one(self):
        words = []
        for seed in range(40):
            world = random_world(9520 + seed, (2, 3), 2, low=0, alike=seed % 2)
            if seed % 3 == 0:
                world = random_world(9520 + seed, (2, 2), 2, low=0, alike=seed % 2)
            for i, w in ((0, 1), (1, 0)):
                one, both = [ratios_of(chances_by_hand(world, lot)) for lot in ((i,), (0, 1))]
                drawn = drawing_for(one, both) is not None
                self.assertEqual(drawn, w not in telling(world) or is_sure(world, (i,)))
                words.append((drawn, w in telling(world)))
        self.assertLessEqual({(True, False), (False, True)}, set(words))

    def test_a_look_of_two_tilts_draws_each_look_of_its_side(self):
        many = 0
        for frame in sided_pieces():
            tilts = frame.tilts
            heights = tilts.heights()
            for side, looks in enumerate(tilts.sides):
                ends = {heights[2 * side], ratio(-fraction(heights[2 * side + 1]))}
                for look in looks:
                    if set(curve_of(tilts, look).tilts) == ends:
                        self.assertTrue(all(other == look or told_drawing(frame.sights, look, other)
                                            for other in looks))
                        many += 1
        self.assertGreater(many, 10)


class OnePairSettlesItTest(unittest.TestCase):
    """Point 100."""

    def test_a_pair_within_side_a(self):
        words = []
        for frame in sided_pieces():
            tilts = frame.tilts
            for pair in itertools.combinations(tilts.sides[0], 2):
                if pair in frame.sights.pairs():
                    continue
                low, high = [fraction(end) for end in factor_ends(frame)]
                for c in (low, (low + high) / 2, high):
                    links = {(a, b): c * fraction(tilts.tilt((pair[0], a))) * fraction(tilts.tilt((pair[1], b)))
                             for a, b in rows(pair, frame.sights.sizes)}
                    more = with_links(frame.sights, pair, links)
                    new = frame_of(more, 0)
                    for i, j in itertools.product(*tilts.sides):
                        word = drawn_where(new, i, j)
                        self.assertEqual(word, "all" if c >= fraction(across_factor(tilts, i, j)) else "none")
                        words.append(word)
        self.assertEqual(set(words), {"all", "none"})

    def test_a_pair_between_two_pieces(self):
        words = []
        parts = [frame.sights for frame in sided_pieces() if len(frame.sights.sizes) <= 4][:6]
        for one, two in itertools.combinations(parts, 2):
            sights = beside(one, two)
            first, second = Tilts(sights, 0), Tilts(sights, 1)
            pair = (first.sides[0][0], second.sides[0][0])
            for v in (Fraction(1, 9), Fraction(1, 2), Fraction(2)):
                links = {(a, b): v * fraction(first.tilt((pair[0], a))) * fraction(second.tilt((pair[1], b)))
                         for a, b in rows(pair, sights.sizes)}
                more = with_links(sights, pair, links)
                if more is None:
                    continue
                for i, j in itertools.product(first.sides[0], second.sides[1]):
                    least = curve_of(first, i).least_factor(curve_of(second, j))
                    drawn = told_drawing(more, i, j) is not None
                    self.assertEqual(drawn, v >= fraction(least))
                    words.append(drawn)
        self.assertEqual(set(words), {True, False})


if __name__ == "__main__":
    unittest.main()
