"""Points 66 and 67 and the interface of hiddensorts/untold.py."""

import itertools
import unittest
from fractions import Fraction

from hiddensorts.bounds import lean_ends
from hiddensorts.errors import (BadLook, BadNumber, BadSpot, IsRinged, NotBehind, NotRinged, OneSide, OtherPiece,
                                OtherSide, Outside)
from hiddensorts.frames import frame_of
from hiddensorts.loose import world_at, world_with
from hiddensorts.sights import Sights
from hiddensorts.tables import Table
from hiddensorts.tilts import Tilts
from hiddensorts.untold import factor_ends, link_ends, pair_at, share_of, twist_ends
from hiddensorts.webs import Web
from hiddensorts.worlds import World
from tests.oracles import made_link, made_twist, numbers_of
from tests.test_barring import inner_worlds
from tests.test_bounds import pair_of
from tests.test_frames import RING, RINGS, TREES, many_sights, piece_spots
from tests.tools import FAR, HALF, NO_INTEGERS, NO_NUMBERS, as_it_looks, fraction, random_world, ratio

ALWAYS = [(1, 2), 0, 0, (1, 2)]


def oblongs(count):
    return [frame_of(sights, 0) for sights in many_sights(TREES, count)]


def stretches(count):
    return [frame_of(sights, 0) for sights in many_sights(RINGS, count)]


def side_of(tilts, look):
    return 0 if look in tilts.sides[0] else 1


class FactorTest(unittest.TestCase):

    def test_ends(self):
        for frame in oblongs(14):
            low, high = factor_ends(frame)
            self.assertEqual(fraction(low), fraction(frame.s_low) * fraction(frame.t_low))
            self.assertEqual(fraction(high), fraction(frame.s_high) * fraction(frame.t_high))
            factors = []
            for world in inner_worlds(frame):
                s, t = [fraction(number) for number in frame.coordinates(world)]
                factors.append(s * t)
            self.assertEqual(pair_of(factors), (low, high))

    def test_example(self):
        sights = Sights([HALF] * 3, seen=[((0, 1), FAR), ((0, 2), FAR)])
        frame = frame_of(sights, 0)
        self.assertEqual([factor_ends(frame), link_ends(frame, (1, 0), (2, 0)), pair_at(frame, 2, 1, (1, 4)).entries],
                         [((1, 16), (1, 1)), ((1, 16), (1, 1)), ((5, 16), (3, 16), (3, 16), (5, 16))])

    def test_one_world(self):
        frame = frame_of(Sights([HALF, HALF], seen=[((0, 1), ALWAYS)]), 0)
        self.assertEqual((factor_ends(frame), link_ends(frame, (0, 0), (0, 1))), (((1, 1), (1, 1)), ((-1, 1), (-1, 1))))
        self.assertEqual(pair_at(frame, 1, 1, 1), Table((1, 1), (2, 2), ALWAYS))


class LinkTest(unittest.TestCase):

    def test_ends_are_those_of_all_fair_worlds(self):
        for frame in oblongs(10) + stretches(5):
            worlds = inner_worlds(frame)
            for x, y in itertools.product(piece_spots(frame.tilts), repeat=2):
                found = link_ends(frame, list(x), y)
                self.assertEqual(found, pair_of([made_link(world, x, y) for world in worlds]))
                self.assertTrue(as_it_looks(found))
                told = frame.tilts.told(x, y)
                if told is not None:
                    self.assertEqual(found, (told, told))


class PairAtTest(unittest.TestCase):

    def test_made_by_the_worlds_with_this_factor(self):
        for frame in oblongs(10):
            tilts = frame.tilts
            for world in inner_worlds(frame)[::5]:
                s, t = [fraction(number) for number in frame.coordinates(world)]
                for look, other in itertools.product(tilts.looks, repeat=2):
                    if side_of(tilts, look) != side_of(tilts, other):
                        with self.assertRaises(OtherSide):
                            pair_at(frame, look, other, ratio(s * t))
                        continue
                    found = pair_at(frame, look, other, list(ratio(s * t)))
                    self.assertIs(type(found), Table)
                    self.assertEqual(found, world.made(sorted([look, other])))

    def test_outside(self):
        for frame in oblongs(4):
            low, high = [fraction(end) for end in factor_ends(frame)]
            look = frame.tilts.looks[0]
            for factor in (low * Fraction(99, 100), high * Fraction(101, 100), 0, -low):
                with self.assertRaises(Outside):
                    pair_at(frame, look, look, ratio(factor))
            for factor in (low, high):
                self.assertTrue(pair_at(frame, look, look, ratio(factor)).fair)

    def test_order_of_errors(self):
        sights = Sights([HALF] * 7, seen=RING + [((3, 4), FAR), ((4, 5), FAR)])
        stretch, oblong = frame_of(sights, 0), frame_of(sights, 1)
        for arguments in ((None, None, None), (0, 1, 1), (3, 5, (1, 4))):
            with self.assertRaises(IsRinged):
                pair_at(stretch, *arguments)
        with self.assertRaises(IsRinged):
            factor_ends(stretch)
        for look in NO_INTEGERS + [7, -1]:
            for pair in ((look, 0), (look, look), (3, look)):
                with self.assertRaises(BadLook):
                    pair_at(oblong, *pair, None)
            with self.assertRaises(OtherPiece):
                pair_at(oblong, 0, look, None)
        for pair in ((0, 3), (3, 0), (6, 3), (3, 6)):
            with self.assertRaises(OtherPiece):
                pair_at(oblong, *pair, None)
        for value in NO_NUMBERS:
            with self.assertRaises(BadNumber):
                pair_at(oblong, 3, 4, value)
        for factor in (0, 99, (1, 4)):
            with self.assertRaises(OtherSide):
                pair_at(oblong, 3, 4, factor)
            with self.assertRaises(OtherSide):
                pair_at(oblong, 4, 3, factor)
        with self.assertRaises(Outside):
            pair_at(oblong, 3, 5, 99)


class TwistTest(unittest.TestCase):

    def test_ends_are_those_of_all_fair_worlds(self):
        many = 0
        for frame in oblongs(12) + stretches(6):
            worlds = inner_worlds(frame)[::4] + frame.end_worlds()
            for looks in itertools.permutations(frame.tilts.looks, 3):
                for answers in ((0, 0, 0), (1, 0, 1), (1, 1, 0)):
                    x, y, z = list(zip(looks, answers))
                    found = twist_ends(frame, list(x), y, z)
                    self.assertEqual(found, pair_of([made_twist(world, x, y, z) for world in worlds]))
                    many += 1
        self.assertGreater(many, 100)

    def test_the_lean_times_the_told_link(self):
        for frame in oblongs(6):
            for looks in itertools.permutations(frame.tilts.looks, 3):
                if side_of(frame.tilts, looks[1]) != side_of(frame.tilts, looks[2]):
                    x, y, z = [(look, 0) for look in looks]
                    link = fraction(frame.tilts.told(y, z))
                    wanted = pair_of([fraction(end) * link for end in lean_ends(frame, x)])
                    self.assertEqual(twist_ends(frame, x, y, z), wanted)

    def test_refuses(self):
        ring = frame_of(Sights([HALF] * 6, seen=RING + [((3, 4), FAR)]), 0)
        good = [(0, 0), (1, 1), (2, 0)]
        self.assertEqual(len(twist_ends(ring, *good)), 2)
        for place in range(3):
            for spot, error in ((None, BadSpot), ((6, 0), BadSpot), ((0, 2), BadSpot), ((3, 0), OtherPiece),
                                ((5, 0), OtherPiece)):
                spots = list(good)
                spots[place] = spot
                with self.assertRaises(error):
                    twist_ends(ring, *spots)
        # Spot by spot: another piece's spot first, then none at all.
        with self.assertRaises(OtherPiece):
            twist_ends(ring, (3, 0), None, None)
        with self.assertRaises(BadSpot):
            twist_ends(ring, (0, 0), None, (3, 0))
        with self.assertRaises(OtherPiece):
            twist_ends(ring, (0, 0), (0, 0), (3, 0))
        for spots in (((0, 0), (0, 1), (1, 0)), ((1, 0), (0, 0), (1, 0)), ((0, 0), (1, 0), (1, 1))):
            with self.assertRaises(BadSpot):
                twist_ends(ring, *spots)

    def test_two_spots_of_one_look_are_told_before_one_side(self):
        star = frame_of(Sights([HALF] * 4, seen=[((0, 1), FAR), ((0, 2), FAR), ((0, 3), FAR)]), 0)
        with self.assertRaises(OneSide):
            twist_ends(star, (1, 0), (2, 0), (3, 1))
        with self.assertRaises(BadSpot):
            twist_ends(star, (1, 0), (2, 0), (1, 1))
        self.assertEqual(twist_ends(star, (1, 0), (2, 0), (0, 0)), twist_ends(star, (0, 0), (1, 0), (2, 0)))

    def test_links_refuse(self):
        ring = frame_of(Sights([HALF] * 6, seen=RING + [((3, 4), FAR)]), 0)
        for pair, error in (((None, (3, 0)), BadSpot), (((3, 0), None), OtherPiece), (((0, 0), None), BadSpot),
                            (((0, 0), (4, 1)), OtherPiece), (((0, 2), (0, 0)), BadSpot),
                            (((0, 0), (5, 1)), OtherPiece)):
            with self.assertRaises(error):
                link_ends(ring, *pair)


class ShareTest(unittest.TestCase):

    def test_shares(self):
        for frame in stretches(8):
            first, second = frame.first_end(), frame.second_end()
            if first == second:
                self.assertIsNone(share_of(frame, first))
                continue
            self.assertEqual((share_of(frame, first), share_of(frame, second)), ((1, 1), (0, 1)))
            spots = piece_spots(frame.tilts)
            for world in inner_worlds(frame):
                share = fraction(share_of(frame, world))
                self.assertTrue(0 <= share <= 1)
                for x in spots:
                    b, b1, b2 = [numbers_of(each, x)[1] for each in (world, first, second)]
                    self.assertEqual(b, b2 + share * (b1 - b2))
                for x, y, z in list(itertools.combinations_with_replacement(spots, 3))[::7]:
                    t, t1, t2 = [self.part(each, x, y, z) for each in (world, first, second)]
                    self.assertEqual(t, t2 + share * (t1 - t2))

    def part(self, world, x, y, z):
        """The part of three spots, of looks asked again too: (q - p) p q times the splits."""
        p, q = [fraction(chance) for chance in world.chances]
        d = [numbers_of(world, spot)[0] for spot in (x, y, z)]
        return (q - p) * p * q * d[0] * d[1] * d[2]

    def test_one_world_alone(self):
        sure = World(((1, 3), (2, 3)), [[[1, 0], HALF, [(1, 3), (2, 3)]], [[0, 1], [1, 0], HALF]])
        frame = frame_of(sure.sights_of(RINGS[0]), 0)
        self.assertIsNone(share_of(frame, frame.first_end()))
        for world in (World.even((2, 2, 2), 2), frame.first_end().renamed((1, 0))):
            with self.assertRaises(NotBehind):
                share_of(frame, world)

    def test_refuses(self):
        ring = frame_of(Sights([HALF] * 4, seen=RING), 0)
        oblong = frame_of(Sights([HALF] * 4, seen=RING[:1]), 0)
        loose = world_with(ring.tilts, (1, 17))
        self.assertFalse(loose.fair)
        for world in (ring.first_end().renamed((1, 0)), ring.first_end().without(3), World.even((2, 2, 2, 2), 2),
                      World.even((2, 2, 2, 2), 1), loose, oblong.first_end()):
            with self.assertRaises(NotBehind):
                share_of(ring, world)
            with self.assertRaises(NotRinged):
                share_of(oblong, world)

    def test_a_fair_world_behind_its_own_sights(self):
        world = random_world(6600, (2, 3, 2), 2, low=1)
        frame = frame_of(world.sights_of([(0, 1, 2)]), 0)
        self.assertTrue(frame.ringed)
        if fraction(world.chance_at(0, frame.tilts.base)) < fraction(world.chance_at(1, frame.tilts.base)):
            world = world.renamed((1, 0))
        share = share_of(frame, world)
        self.assertTrue(0 <= fraction(share) <= 1)
        low, high = [fraction(end) for end in twist_ends(frame, (0, 0), (1, 0), (2, 0))]
        self.assertTrue(low <= made_twist(world, (0, 0), (1, 0), (2, 0)) <= high)


class AlikeTest(unittest.TestCase):

    def test_the_factor_is_s_times_t(self):
        for frame in oblongs(4):
            tilts = Tilts(frame.sights, 0)
            self.assertEqual(len(Web(frame.sights).pieces[0]), len(tilts.looks))
            one, two = world_at(tilts, (1, 2), 3), world_at(tilts, 1, (3, 2))
            for look in tilts.looks:
                self.assertEqual(one.made((look, look)), two.made((look, look)))


if __name__ == "__main__":
    unittest.main()
