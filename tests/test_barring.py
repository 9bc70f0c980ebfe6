"""Points 46 and 53 and the interface of hiddensorts/barring.py and hiddensorts/sureness.py."""

import itertools
import unittest
from fractions import Fraction

from hiddensorts.apart import is_sure
from hiddensorts.barring import barring, touching, unseen_bar
from hiddensorts.errors import BadLook, BadPiece, Clash, OtherPiece
from hiddensorts.frames import frame_of
from hiddensorts.giving import bend
from hiddensorts.loose import world_with
from hiddensorts.making import zeros
from hiddensorts.sights import Sights
from hiddensorts.sureness import border_spots, may_be_sure, must_be_sure
from hiddensorts.tilts import Tilts
from hiddensorts.webs import Web
from hiddensorts.worlds import World
from tests.oracles import holds_reason, look_spots
from tests.test_frames import CHAIN, RING, RINGS, TREES, many_sights, piece_spots, random_sights
from tests.tools import FAR, HALF, NEAR, NO_INTEGERS, QUARTERS, fraction, random_world, ratio

ALWAYS = [(1, 2), 0, 0, (1, 2)]


class BarringTest(unittest.TestCase):

    def check(self, sights):
        many = 0
        for number in range(len(Web(sights).pieces)):
            tilts = Tilts(sights, number)
            spots = piece_spots(tilts)
            pairs = [(x, y) for x in spots for y in spots if x <= y and tilts.told(x, y) is not None]
            links = {pair: fraction(tilts.told(*pair)) for pair in pairs}
            self.assertEqual(barring(sights, number), sorted(pair for pair in pairs if links[pair] < -1))
            self.assertEqual(touching(sights, number), sorted(pair for pair in pairs if links[pair] == -1))
            many += len(barring(sights, number))
        return many

    def test_random_sights(self):
        bars = 0
        for seed in range(90):
            sights = random_sights(6000 + seed, (TREES + RINGS)[seed % 7], scale=2 + seed % 3)
            if sights is not None:
                bars += self.check(sights)
        self.assertGreater(bars, 5)

    def test_fair_worlds_have_no_bars(self):
        for seed in range(9):
            sights = random_world(6100 + seed, (2, 3, 2, 2), 2, low=0).sights_of((TREES + RINGS)[seed % 7])
            self.assertEqual(self.check(sights), 0)
            self.assertIsNone(unseen_bar(sights))

    def test_example(self):
        s = Sights([HALF] * 4, seen=CHAIN)
        self.assertEqual([unseen_bar(s), barring(s, 0), touching(s, 0)],
                         [((0, 0), (3, 1)), [((0, 0), (3, 1)), ((0, 1), (3, 0))], []])

    def test_touching(self):
        s = Sights([HALF] * 2, seen=[((0, 1), ALWAYS)])
        self.assertEqual((touching(s, 0), barring(s, 0)), ([((0, 0), (1, 1)), ((0, 1), (1, 0))], []))
        # A ring: two answers of one look that no sort has both of; the look is asked again.
        world = World([(1, 2), (1, 2)], [[[1, 0], [(3, 4), (1, 4)], HALF], [[0, 1], HALF, [(1, 4), (3, 4)]]])
        ring = world.sights_of([(0, 1), (1, 2), (0, 2)])
        self.assertEqual(touching(ring, 0), [((0, 0), (0, 1))])

    def test_bars_within_a_look_of_a_ring(self):
        # Links 1/4 and twice 7/8 in a ring: told(x, x) of the look between the strong pairs is above 1.
        strong = [(15, 32), (1, 32), (1, 32), (15, 32)]
        s = Sights([HALF] * 3, seen=[((0, 1), strong), ((0, 2), strong), ((1, 2), FAR)])
        self.assertEqual(barring(s, 0), [((0, 0), (0, 1))])
        self.assertEqual(self.check(s), 1)

    def test_unseen_bar_takes_the_first_piece(self):
        far_chain = [((look + 4, other + 4), table) for (look, other), table in CHAIN]
        both = Sights([HALF] * 8, seen=CHAIN + far_chain)
        self.assertEqual(unseen_bar(both), ((0, 0), (3, 1)))
        weak = [((0, 1), FAR), ((1, 2), FAR), ((2, 3), FAR)]
        self.assertEqual(unseen_bar(Sights([HALF] * 8, seen=weak + far_chain)), ((4, 0), (7, 1)))
        self.assertIsNone(unseen_bar(Sights([HALF] * 4, seen=weak)))
        self.assertIsNone(unseen_bar(Sights([HALF] * 4)))

    def test_pieces_that_lie_between_each_other(self):
        # The first piece is that of look 0, though its bar has later looks than the other piece's.
        seen = [((0, 3), NEAR), ((3, 5), FAR), ((5, 7), NEAR), ((1, 2), NEAR), ((2, 4), FAR), ((4, 6), NEAR)]
        self.assertEqual(unseen_bar(Sights([HALF] * 8, seen=seen)), ((0, 0), (7, 1)))

    def test_wrong(self):
        clash = Sights([HALF] * 5, seen=RING[:2] + [((1, 2), QUARTERS), ((3, 4), FAR)])
        for call in (barring, touching):
            for number in NO_INTEGERS + [-1, 2]:
                with self.assertRaises(BadPiece):
                    call(clash, number)
            with self.assertRaises(Clash) as caught:
                call(clash, 0)
            self.assertTrue(holds_reason(clash, caught.exception.reason, (0, 1, 2)))
            self.assertEqual(call(clash, 1), [])
        with self.assertRaises(Clash) as caught:
            unseen_bar(clash)
        self.assertEqual(caught.exception.reason, ("apart", 1, 2))
        apart = Sights([HALF] * 8, seen=CHAIN + [((4, 5), FAR), ((0, 4), QUARTERS)])
        with self.assertRaises(Clash) as caught:
            unseen_bar(apart)
        self.assertEqual((caught.exception.reason, len(barring(apart, 0))), (("apart", 0, 4), 2))

    def test_returned_lists_are_fresh(self):
        s = Sights([HALF] * 4, seen=CHAIN)
        always = Sights([HALF] * 2, seen=[((0, 1), ALWAYS)])
        for call in (lambda: barring(s, 0), lambda: touching(always, 0)):
            first = call()
            self.assertIs(type(first), list)
            self.assertTrue(all(type(pair) is tuple and type(pair[0]) is tuple for pair in first))
            kept = list(first)
            first.clear()
            self.assertEqual(call(), kept)


def inner_worlds(frame):
    """Fair worlds of the frame's piece: the ends and some between."""
    found = frame.end_worlds()
    if frame.ringed:
        own = fraction(frame.tilts.told(frame.tilts.base, frame.tilts.base))
        chances = [ratio(1 / (1 + own * Fraction(k, 7) ** 2)) for k in range(1, 40)]
        return found + [world_with(frame.tilts, p) for p in chances if frame.holds(p)]
    ends = [fraction(end) for end in (frame.s_low, frame.s_high, frame.t_low, frame.t_high)]
    for k, j in itertools.product(range(5), repeat=2):
        s = ends[0] + (ends[1] - ends[0]) * Fraction(k, 4)
        t = ends[2] + (ends[3] - ends[2]) * Fraction(j, 4)
        found.append(frame.at(ratio(s), ratio(t)))
    return found


class SurenessTest(unittest.TestCase):

    def check(self, frame):
        words = []
        worlds = inner_worlds(frame)
        for look in frame.tilts.looks:
            sure = [is_sure(world, (look,)) for world in worlds]
            may, must = may_be_sure(frame, look), must_be_sure(frame, look)
            self.assertEqual((may, must), (any(sure), all(sure)))
            bends = [[bend(world, x) for x in look_spots(frame.sights, look)] for world in worlds]
            self.assertEqual(any(set(found) == {(0, 1)} for found in bends), may)
            if may and not frame.ringed:
                corner = frame.corner(1, 1) if look in frame.tilts.sides[0] else frame.corner(0, 0)
                self.assertTrue(is_sure(corner, (look,)))
            words += [may, must]
        return words

    def test_random_frames(self):
        words = []
        for sights in many_sights(TREES, 18) + many_sights(RINGS, 14):
            words += self.check(frame_of(sights, 0))
        self.assertGreater(words.count(True), 5)

    def test_worlds_with_sure_looks(self):
        words = []
        for seed in range(30):
            world = random_world(6200 + seed, (2, 3, 2, 2), 2, low=0)
            sorts = [list(sort) for sort in world.sorts]
            sorts[0][1], sorts[1][1] = ((1, 3), (2, 3), 0), (0, 0, 1)
            sights = World(world.chances, sorts).sights_of((TREES + RINGS)[seed % 7])
            for number in range(len(Web(sights).pieces)):
                words += self.check(frame_of(sights, number))
        self.assertGreater(min(words.count(True), words.count(False)), 10)

    def test_sided(self):
        frame = frame_of(Sights([HALF] * 2, seen=[((0, 1), FAR)]), 0)
        self.assertEqual([may_be_sure(frame, 0), must_be_sure(frame, 0), may_be_sure(frame, 1)], [True, False, True])
        frame = frame_of(Sights([HALF] * 2, seen=[((0, 1), ALWAYS)]), 0)
        self.assertEqual([may_be_sure(frame, 0), must_be_sure(frame, 0), must_be_sure(frame, 1)], [True, True, True])

    def test_ringed(self):
        world = World([(1, 3), (2, 3)], [[[(1, 4), (3, 4), 0], [(1, 2), (1, 2)], [(1, 5), (4, 5)]],
                                         [[0, 0, 1], [(1, 3), (2, 3)], [(3, 4), (1, 4)]]])
        frame = frame_of(world.sights_of([(0, 1), (1, 2), (0, 2)]), 0)
        self.assertEqual([may_be_sure(frame, look) for look in range(3)], [True, False, False])
        self.assertEqual([must_be_sure(frame, look) for look in range(3)], [True, False, False])
        ring = frame_of(Sights([HALF] * 3, seen=RING), 0)
        self.assertEqual([may_be_sure(ring, 0), must_be_sure(ring, 0)], [False, False])

    def test_border_spots(self):
        for sights in many_sights(TREES, 12) + many_sights(RINGS, 12):
            frame = frame_of(sights, 0)
            met = {spot for world in frame.end_worlds() for _, spot in zeros(world)}
            found = border_spots(frame)
            self.assertEqual(found, sorted(met & set(piece_spots(frame.tilts))))
            self.assertTrue(found)
            found.clear()
            self.assertTrue(border_spots(frame))
        frame = frame_of(Sights([HALF, [(1, 3)] * 3, HALF], seen=[((0, 2), FAR)]), 0)
        self.assertEqual(border_spots(frame), [(0, 0), (0, 1), (2, 0), (2, 1)])
        self.assertIs(type(border_spots(frame)), list)

    def test_border_spots_are_of_extreme_tilt(self):
        for sights in many_sights(TREES, 12):
            frame = frame_of(sights, 0)
            heights = frame.tilts.heights()
            ends = [{heights[0], ratio(-fraction(heights[1]))}, {heights[2], ratio(-fraction(heights[3]))}]
            wanted = [x for x in piece_spots(frame.tilts)
                      if frame.tilts.tilt(x) in ends[0 if x[0] in frame.tilts.sides[0] else 1]]
            self.assertEqual(border_spots(frame), wanted)

    def test_wrong(self):
        sights = Sights([HALF] * 6, seen=RING + [((3, 4), FAR)])
        for frame, looks in ((frame_of(sights, 0), (3, 5)), (frame_of(sights, 1), (0, 5))):
            for call in (may_be_sure, must_be_sure):
                for look in NO_INTEGERS + [6, -1]:
                    with self.assertRaises(BadLook):
                        call(frame, look)
                for look in looks:
                    with self.assertRaises(OtherPiece):
                        call(frame, look)


if __name__ == "__main__":
    unittest.main()
