"""Points 68 to 71 and the interface of hiddensorts/meeting.py."""

import itertools
import unittest
from fractions import Fraction

from hiddensorts.agreeing import pairs_agree
from hiddensorts.bounds import chance_ends
from hiddensorts.errors import BadSpot, NoFair, NotRinged, OtherPiece
from hiddensorts.frames import frame_of
from hiddensorts.meeting import balance_ends, cross_signs, cross_square, meet, meet_all, stands_together
from hiddensorts.sights import Sights
from hiddensorts.webs import Web
from tests.oracles import beside
from tests.test_barring import inner_worlds
from tests.test_frames import CHAIN, RING, RINGS, TREES, many_sights, piece_spots, told_links
from tests.tools import FAR, HALF, QUARTERS, as_it_looks, fraction, random_world, ratio


def sure_frame(p, *, turned=False):
    """A frame of one world alone with the chance p of sort 0: two sure looks, seen together."""
    p, q = Fraction(p), 1 - Fraction(p)
    answers = (p, q) if not turned else (q, p)
    table = [ratio(answers[0]), 0, 0, ratio(answers[1])]
    single = [ratio(answer) for answer in answers]
    return frame_of(Sights([single, single], seen=[((0, 1), table)]), 0)


def frames():
    return [frame_of(sights, 0) for sights in many_sights(TREES, 14) + many_sights(RINGS, 12)]


def skewed(m, c):
    """A frame of two looks alike, with singles m and 1 - m and links c (1 - m)^2, -c m (1 - m), c m^2."""
    m, c = Fraction(m), Fraction(c)
    links = (c * (1 - m) ** 2, -c * m * (1 - m), -c * m * (1 - m), c * m ** 2)
    shares = (m * m, m * (1 - m), m * (1 - m), (1 - m) ** 2)
    single = [ratio(m), ratio(1 - m)]
    return frame_of(Sights([single, single], seen=[((0, 1), [ratio(s * (1 + k)) for s, k in zip(shares, links)])]), 0)


class BalanceTest(unittest.TestCase):

    def test_ends_are_those_of_all_fair_worlds(self):
        for frame in frames():
            low, high = [fraction(end) for end in balance_ends(frame)]
            balances = [fraction(world.chances[0]) * fraction(world.chances[1]) for world in inner_worlds(frame)]
            self.assertEqual(low, min(balances))
            self.assertGreaterEqual(high, max(balances))
            p1, p2 = [fraction(end) for end in chance_ends(frame)]
            self.assertEqual(high, Fraction(1, 4) if p1 <= Fraction(1, 2) <= p2 else max(p1 * (1 - p1), p2 * (1 - p2)))
            self.assertTrue(as_it_looks(balance_ends(frame)))

    def test_about_one_half(self):
        frame = frame_of(Sights([HALF, HALF], seen=[((0, 1), FAR)]), 0)
        self.assertEqual(balance_ends(frame), ((4, 25), (1, 4)))
        self.assertEqual(balance_ends(sure_frame(Fraction(1, 2))), ((1, 4), (1, 4)))
        self.assertEqual(balance_ends(sure_frame(Fraction(1, 3))), ((2, 9), (2, 9)))

    def test_ranges_that_end_at_one_half(self):
        # K = 1: the chance goes up to 1/2 and no further.
        for m, c in ((Fraction(1, 3), Fraction(9, 4)), (Fraction(2, 3), Fraction(9, 4))):
            frame = skewed(m, c)
            low, high = chance_ends(frame)
            self.assertIn((1, 2), (low, high))
            self.assertEqual(balance_ends(frame)[1], (1, 4))
            self.assertLess(fraction(balance_ends(frame)[0]), Fraction(1, 4))

    def test_ranges_on_one_side_of_one_half(self):
        frame = skewed(Fraction(1, 4), 3)
        low, high = [fraction(end) for end in chance_ends(frame)]
        self.assertLess(high, Fraction(1, 2))
        self.assertEqual(balance_ends(frame), (ratio(low * (1 - low)), ratio(high * (1 - high))))
        turned = skewed(Fraction(3, 4), 3)
        low, high = [fraction(end) for end in chance_ends(turned)]
        self.assertGreater(low, Fraction(1, 2))
        self.assertEqual(balance_ends(turned), (ratio(high * (1 - high)), ratio(low * (1 - low))))
        self.assertEqual(balance_ends(turned), balance_ends(frame))


def overlap(one, two):
    return max(one[0], two[0]) <= min(one[1], two[1])


class MeetTest(unittest.TestCase):

    def all_frames(self):
        found = frames()[::3]
        found += [sure_frame(Fraction(k, 12)) for k in (1, 3, 6, 7, 11)]
        return found + [skewed(Fraction(1, 4), 3), skewed(Fraction(3, 4), 3), skewed(Fraction(1, 3), Fraction(9, 4))]

    def test_two_frames(self):
        words, signs = [], []
        for one, two in itertools.product(self.all_frames(), repeat=2):
            ranges = [tuple(fraction(end) for end in balance_ends(frame)) for frame in (one, two)]
            words.append(meet(one, two))
            self.assertIs(words[-1], overlap(*ranges))
            p, r = [tuple(fraction(end) for end in chance_ends(frame)) for frame in (one, two)]
            wanted = ((1,) if overlap(p, r) else ()) + ((-1,) if overlap(p, (1 - r[1], 1 - r[0])) else ())
            signs.append(cross_signs(one, two))
            self.assertEqual(signs[-1], wanted)
            self.assertIs(type(signs[-1]), tuple)
            self.assertEqual(bool(signs[-1]), words[-1])
            self.check_products(one, two, signs[-1])
        self.assertEqual(set(signs), {(1, -1), (1,), (-1,), ()})
        self.assertEqual(set(words), {True, False})

    def check_products(self, one, two, signs):
        """Point 70 by K and L, straight from its words."""
        (k1, l1), (k2, l2) = [self.greatest_links(frame.tilts) for frame in (one, two)]
        self.assertEqual(1 in signs, k1 * l2 <= 1 and k2 * l1 <= 1)
        self.assertEqual(-1 in signs, k1 * k2 <= 1 and l1 * l2 <= 1)

    def greatest_links(self, tilts):
        told = told_links(tilts)
        return [max(fraction(link) for (x, y), link in told.items() if tilts.leaning(x) == tilts.leaning(y) == sign)
                for sign in (1, -1)]

    def test_touching_in_one_number(self):
        third, other = sure_frame(Fraction(1, 3)), sure_frame(Fraction(2, 3))
        self.assertEqual((cross_signs(third, third), cross_signs(third, other)), ((1,), (-1,)))
        self.assertIs(meet(third, other), True)
        self.assertEqual(cross_signs(sure_frame(Fraction(1, 2)), sure_frame(Fraction(1, 2))), (1, -1))
        self.assertEqual((cross_signs(third, sure_frame(Fraction(1, 4))), meet(third, sure_frame(Fraction(1, 4)))),
                         ((), False))
        self.assertEqual(cross_signs(skewed(Fraction(1, 3), Fraction(9, 4)), sure_frame(Fraction(1, 2))), (1, -1))

    def test_a_frame_meets_itself(self):
        for frame in self.all_frames():
            self.assertIs(meet(frame, frame), True)
            self.assertIn(1, cross_signs(frame, frame))

    def test_meet_all(self):
        found = self.all_frames()
        self.assertIs(meet_all([]), True)
        self.assertIs(meet_all(()), True)
        kept = list(found)
        meet_all(found)
        self.assertEqual([id(frame) for frame in found], [id(frame) for frame in kept])
        words = []
        for one, two, three in itertools.combinations(found[:10], 3):
            ranges = [[fraction(end) for end in balance_ends(frame)] for frame in (one, two, three)]
            words.append(meet_all([one, two, three]))
            self.assertIs(words[-1], max(low for low, _ in ranges) <= min(high for _, high in ranges))
            self.assertEqual(words[-1], meet(one, two) and meet(two, three) and meet(one, three))
            self.assertIs(meet_all((one,)), True)
        self.assertEqual(set(words), {True, False})


class CrossSquareTest(unittest.TestCase):

    def test_products_of_own_links(self):
        far_ring = [((3, 4), FAR), ((4, 5), FAR), ((3, 5), FAR)]
        sights = Sights([HALF] * 6, seen=RING + far_ring)
        one, two = frame_of(sights, 0), frame_of(sights, 1)
        self.assertEqual(cross_square(one, two, (0, 0), [4, 1]), (1, 16))
        found = [frame_of(each, 0) for each in many_sights(RINGS, 6)]
        for one, two in itertools.product(found, repeat=2):
            for x, y in itertools.product(piece_spots(one.tilts), piece_spots(two.tilts)):
                wanted = fraction(one.tilts.told(x, x)) * fraction(two.tilts.told(y, y))
                self.assertEqual(cross_square(one, two, x, y), ratio(wanted))

    def test_links_across_of_fair_worlds(self):
        for seed in range(6):
            world = random_world(6700 + seed, (2, 2, 3, 2, 3, 2), 2, low=1)
            sights = world.sights_of([(0, 1, 2), (3, 4, 5)])
            if [len(piece) for piece in Web(sights).pieces] != [3, 3]:
                continue
            frames_here = [frame_of(sights, number) for number in range(2)]
            signs = cross_signs(*frames_here)
            for x, y in itertools.product(piece_spots(frames_here[0].tilts), piece_spots(frames_here[1].tilts)):
                link = self.made(world, x, y)
                self.assertEqual(cross_square(*frames_here, x, y), ratio(link ** 2))
            bases = [frame.tilts.base for frame in frames_here]
            link = self.made(world, *bases)
            self.assertIn(1 if link > 0 else -1, signs)

    def made(self, world, x, y):
        entry = fraction(world.made((x[0], y[0])).at((x[1], y[1])))
        return entry / (fraction(world.single(x)) * fraction(world.single(y))) - 1

    def test_refuses(self):
        sights = Sights([HALF] * 8, seen=RING + [((3, 4), FAR), ((4, 5), FAR), ((3, 5), FAR), ((6, 7), FAR)])
        one, two, oblong = [frame_of(sights, number) for number in range(3)]
        for pair in ((one, oblong), (oblong, two), (oblong, oblong)):
            for spots in ((None, None), ((0, 0), (3, 0)), ((9, 0), (6, 0))):
                with self.assertRaises(NotRinged):
                    cross_square(*pair, *spots)
        for spots, error in (((None, (0, 0)), BadSpot), (((0, 2), (3, 0)), BadSpot), (((0, 0), None), BadSpot),
                             (((3, 0), None), OtherPiece), (((0, 0), (0, 0)), OtherPiece),
                             (((6, 0), (3, 0)), OtherPiece), (((0, 0), (8, 0)), BadSpot)):
            with self.assertRaises(error):
                cross_square(one, two, *spots)


class StandsTogetherTest(unittest.TestCase):

    def by_definition(self, sights):
        if not pairs_agree(sights):
            return False
        try:
            found = [frame_of(sights, number) for number in range(len(Web(sights).pieces))]
        except NoFair:
            return False
        return all(meet(one, two) for one, two in itertools.combinations(found, 2))

    def test_sights_of_fair_worlds(self):
        for seed in range(14):
            world = random_world(6800 + seed, (2, 3, 2, 2, 2), 2, low=0)
            lots = [[(0, 1), (2, 3)], [(0, 1, 2), (3, 4)], [(0, 1), (1, 2), (0, 2), (3, 4)]][seed % 3]
            sights = world.sights_of(lots)
            self.assertIs(stands_together(sights), True)

    def test_two_pieces(self):
        words = []
        found = [sure_frame(Fraction(k, 6)) for k in (1, 2, 3, 4)]
        found += [skewed(Fraction(1, 4), 3), skewed(Fraction(1, 2), 1)]
        for one, two in itertools.product(found, repeat=2):
            sights = beside(one.sights, two.sights)
            words.append(stands_together(sights))
            self.assertIs(words[-1], meet(one, two))
            self.assertEqual(words[-1], self.by_definition(sights))
        self.assertEqual(set(words), {True, False})

    def test_three_pieces(self):
        frames_here = [sure_frame(Fraction(1, 3)), skewed(Fraction(1, 2), 1), sure_frame(Fraction(2, 3))]
        self.assertIs(stands_together(beside(*[frame.sights for frame in frames_here])), True)
        frames_here[2] = sure_frame(Fraction(1, 4))
        self.assertIs(stands_together(beside(*[frame.sights for frame in frames_here])), False)

    def test_without_pieces(self):
        self.assertIs(stands_together(Sights([HALF])), True)
        self.assertIs(stands_together(Sights([HALF] * 3, seen=[((0, 1), QUARTERS)])), True)

    def test_pairs_that_do_not_agree_and_links_below_minus_1(self):
        self.assertIs(stands_together(Sights([HALF] * 3, seen=RING[:2] + [((1, 2), QUARTERS)])), False)
        self.assertIs(stands_together(Sights([HALF] * 4, seen=CHAIN)), False)
        apart = Sights([HALF] * 4, seen=[((0, 1), FAR), ((2, 3), FAR), ((0, 2), QUARTERS)])
        self.assertIs(stands_together(apart), False)

    def test_larger_lots_count_by_their_pairs(self):
        # The parity of three looks: no pair is linked, so pairs alone leave all to be independent.
        quarter = (1, 4)
        self.assertIs(stands_together(Sights([HALF] * 3, seen=[((0, 1, 2), [quarter, 0, 0, quarter, 0, quarter, quarter,
                                                                            0])])), True)

    def test_equal_sorts(self):
        # Point 70: a fair world with chances 1/2, 1/2 exactly if no told link is below -1 or above 1.
        for frame in frames():
            low, high = [fraction(end) for end in chance_ends(frame)]
            links = [fraction(link) for link in told_links(frame.tilts).values()]
            self.assertEqual(low <= Fraction(1, 2) <= high, max(links) <= 1)

    def test_frames_of_two_sights(self):
        one, two = frame_of(Sights([HALF] * 3, seen=RING), 0), sure_frame(Fraction(1, 2))
        self.assertIs(meet(one, two), True)
        self.assertEqual(cross_signs(two, one), (1, -1))


if __name__ == "__main__":
    unittest.main()
