"""Points 61 to 65, 68 and 74 and the interface of hiddensorts/bounds.py."""

import itertools
import unittest
from fractions import Fraction

from hiddensorts.bounds import bend_ends, chance_ends, lean_ends, verdict, verdict_ends, verdict_world
from hiddensorts.errors import BadNumber, BadSpot, IsRinged, NeverMet, NotTwo, OtherPiece, Outside
from hiddensorts.frames import fair_worlds_of, frame_of
from hiddensorts.loose import world_at
from hiddensorts.sights import Sights
from hiddensorts.webs import Web
from hiddensorts.worlds import World
from tests.oracles import made_link, numbers_of
from tests.test_barring import inner_worlds
from tests.test_frames import RING, RINGS, TREES, many_sights, piece_spots
from tests.tools import FAR, HALF, NO_NUMBERS, as_it_looks, fraction, random_world, ratio

ALWAYS = [(1, 2), 0, 0, (1, 2)]


def frames(count):
    return [frame_of(sights, 0) for sights in many_sights(TREES, count) + many_sights(RINGS, count)]


def pair_of(numbers):
    return (ratio(min(numbers)), ratio(max(numbers)))


def reach(tilts, spot):
    return fraction(tilts.told(tilts.base, spot) if tilts.ringed else tilts.tilt(spot))


def facing(tilts, x):
    if tilts.ringed:
        return piece_spots(tilts)
    side = tilts.sides[0] if x[0] in tilts.sides[1] else tilts.sides[1]
    return [y for y in piece_spots(tilts) if y[0] in side]


class EndsTest(unittest.TestCase):

    def test_ends_are_those_of_all_fair_worlds(self):
        for frame in frames(12):
            worlds = inner_worlds(frame)
            self.assertEqual(chance_ends(frame), pair_of([fraction(world.chances[0]) for world in worlds]))
            self.assertTrue(as_it_looks(chance_ends(frame)))
            for x in piece_spots(frame.tilts):
                found = [numbers_of(world, x) for world in worlds]
                for call, place in ((lean_ends, 1), (bend_ends, 2), (verdict_ends, 3)):
                    self.assertEqual(call(frame, list(x)), pair_of([numbers[place] for numbers in found]))
                for world, numbers in zip(worlds, found):
                    self.assertEqual(verdict(world, x), ratio(numbers[3]))

    def test_ends_are_in_the_two_ends(self):
        for frame in frames(6):
            first, second = frame.first_end(), frame.second_end()
            for x in piece_spots(frame.tilts):
                one, two = numbers_of(first, x), numbers_of(second, x)
                self.assertEqual(verdict_ends(frame, x), (ratio(two[3]), ratio(one[3])))
                self.assertEqual(lean_ends(frame, x), pair_of([one[1], two[1]]))
                self.assertEqual(bend_ends(frame, x), pair_of([one[2], two[2]]))

    def test_the_two_ends_in_closed_form(self):
        for frame in frames(10):
            tilts = frame.tilts
            links = {(x, y): fraction(tilts.told(x, y)) for x in piece_spots(tilts) for y in facing(tilts, x)}
            top, bottom = [max(link for (x, y), link in links.items() if tilts.leaning(x) == tilts.leaning(y) == sign)
                           for sign in (1, -1)]
            first, second = frame.first_end(), frame.second_end()
            self.assertEqual(chance_ends(frame), (ratio(bottom / (1 + bottom)), ratio(1 / (1 + top))))
            for x in piece_spots(tilts):
                reaches = {y: reach(tilts, y) for y in facing(tilts, x)}
                # Spots that tie give the same numbers.
                for up in [y for y in reaches if reaches[y] == max(reaches.values())]:
                    self.check_end(first, tilts, x, links[x, up], top, 0)
                    self.assertEqual(verdict_ends(frame, x)[1], ratio((1 + links[x, up]) / (1 + top)))
                    self.assertIn(ratio(links[x, up] * (1 - 1 / top)), lean_ends(frame, x))
                for down in [y for y in reaches if reaches[y] == min(reaches.values())]:
                    self.check_end(second, tilts, x, links[x, down], bottom, 1)
                    self.assertEqual(verdict_ends(frame, x)[0], ratio(1 - (1 + links[x, down]) / (1 + bottom)))
                    self.assertIn(ratio(links[x, down] * (1 - 1 / bottom)), lean_ends(frame, x))

    def check_end(self, world, tilts, x, link, most, sort):
        m = fraction(tilts.sights.single(x))
        self.assertEqual(world.chance_at(sort, x), ratio(m * (1 + link)))
        self.assertEqual(world.chance_at(1 - sort, x), ratio(m * (1 - link / most)))

    def test_example(self):
        frame = frame_of(Sights([HALF, HALF], seen=[((0, 1), FAR)]), 0)
        found = [chance_ends(frame), verdict_ends(frame, (0, 0)), lean_ends(frame, (0, 0)), bend_ends(frame, (1, 1))]
        self.assertEqual(found,
                         [((1, 5), (4, 5)), ((2, 5), (1, 1)), ((-3, 4), (3, 4)), ((0, 1), (3, 2))])

    def test_a_frame_of_one_world(self):
        frame = frame_of(Sights([HALF, HALF], seen=[((0, 1), ALWAYS)]), 0)
        half = (1, 2)
        found = [chance_ends(frame), verdict_ends(frame, (0, 0)), lean_ends(frame, (1, 0)), bend_ends(frame, (1, 1))]
        self.assertEqual(found,
                         [(half, half), ((1, 1), (1, 1)), ((0, 1), (0, 1)), ((0, 1), (0, 1))])
        self.assertEqual(verdict_ends(frame, (0, 1)), ((0, 1), (0, 1)))
        self.assertEqual(verdict_world(frame, half), frame.only_one())

    def test_the_world_that_made_the_sights_lies_within(self):
        for seed in range(24):
            world = random_world(6500 + seed, (2, 3, 2, 2), 2, low=seed % 2)
            sights = world.sights_of((TREES + RINGS)[seed % 7])
            for number in range(len(Web(sights).pieces)):
                frame = frame_of(sights, number)
                self.check_within(frame, world)

    def check_within(self, frame, world):
        if fraction(world.chance_at(0, frame.tilts.base)) < fraction(world.chance_at(1, frame.tilts.base)):
            world = world.renamed((1, 0))
        low, high = [fraction(end) for end in chance_ends(frame)]
        self.assertTrue(low <= fraction(world.chances[0]) <= high)
        for x in piece_spots(frame.tilts):
            numbers = numbers_of(world, x)
            for call, place in ((lean_ends, 1), (bend_ends, 2), (verdict_ends, 3)):
                low, high = [fraction(end) for end in call(frame, x)]
                self.assertTrue(low <= numbers[place] <= high)
        like = [[sort[look] if look in frame.tilts.looks else frame.sights.singles[look]
                 for look in range(len(world.sizes))] for sort in world.sorts]
        self.assertIs(fair_worlds_of(frame, World(world.chances, like)), True)

    def test_larger_lots_count_by_their_pairs(self):
        world = random_world(6550, (2, 3, 2), 2, low=1)
        one, two = [frame_of(world.sights_of(lots), 0) for lots in ([(0, 1, 2)], [(0, 1), (1, 2), (0, 2)])]
        self.assertEqual(chance_ends(one), chance_ends(two))
        self.assertEqual(bend_ends(one, (1, 1)), bend_ends(two, (1, 1)))


class OrderOfVerdictsTest(unittest.TestCase):

    def test_verdicts_go_by_the_reach(self):
        for frame in frames(6):
            tilts = frame.tilts
            worlds = inner_worlds(frame)
            if not frame.ringed:
                worlds = worlds + [world_at(tilts, s, t) for s in ((1, 9), 7) for t in ((1, 8), 9)]
            for x, y in itertools.product(piece_spots(tilts), repeat=2):
                if not tilts.ringed and y in facing(tilts, x):
                    continue
                above = reach(tilts, x) > reach(tilts, y)
                for world in worlds[:8]:
                    self.assertEqual(fraction(verdict(world, x)) > fraction(verdict(world, y)), above)

    def test_verdict(self):
        world = World([(1, 3), (2, 3)], [[[(3, 4), (1, 4)], [1, 0]], [[(3, 8), (5, 8)], [(1, 2), (1, 2)]]])
        self.assertEqual([verdict(world, x) for x in ((0, 0), [0, 1], (1, 0), (1, 1))],
                         [(1, 2), (1, 6), (1, 2), (0, 1)])
        loose = World([(1, 2), (1, 2)], [[[(3, 2), (-1, 2)]], [[(1, 2), (1, 2)]]])
        self.assertEqual(verdict(loose, (0, 0)), (3, 4))

    def test_verdict_refuses(self):
        one, three = World.even((2, 2), 1), World.even((2, 2), 3)
        for world in (one, three):
            for spot in ((0, 0), None, (9, 9)):
                with self.assertRaises(NotTwo):
                    verdict(world, spot)
        never = World([(1, 2), (1, 2)], [[[1, -1, 1]], [[1, 1, -1]]])
        for spot in (None, (1, 0), (0, 3), (0,), (True, 0)):
            with self.assertRaises(BadSpot):
                verdict(never, spot)
        with self.assertRaises(NeverMet) as caught:
            verdict(never, [0, 1])
        self.assertEqual(caught.exception.spot, (0, 1))


class VerdictWorldTest(unittest.TestCase):

    def test_every_ratio_between_the_ends(self):
        for sights in many_sights(TREES, 14):
            frame = frame_of(sights, 0)
            low, high = [fraction(end) for end in chance_ends(frame)]
            for k in range(8):
                chance = ratio(low + (high - low) * Fraction(k, 7))
                world = verdict_world(frame, list(chance))
                self.assertEqual(world.chances[0], chance)
                self.assertIs(fair_worlds_of(frame, world), True)
            for chance in (low - Fraction(1, 1000), high + Fraction(1, 1000)):
                with self.assertRaises(Outside):
                    verdict_world(frame, ratio(chance))

    def test_refuses(self):
        oblong = frame_of(Sights([HALF, HALF], seen=[((0, 1), FAR)]), 0)
        stretch = frame_of(Sights([HALF] * 3, seen=RING), 0)
        for value in NO_NUMBERS:
            with self.assertRaises(BadNumber):
                verdict_world(oblong, value)
            with self.assertRaises(IsRinged):
                verdict_world(stretch, value)
        for value in (0, 1, -1, 2, (1, 6), (5, 6)):
            with self.assertRaises(Outside):
                verdict_world(oblong, value)
        with self.assertRaises(IsRinged):
            verdict_world(stretch, (1, 2))


class WrongTest(unittest.TestCase):

    def test_spots(self):
        sights = Sights([HALF] * 6, seen=RING + [((3, 4), FAR)])
        for number, outside in ((0, (3, 0)), (0, (5, 0)), (1, (2, 0)), (1, [5, 1])):
            frame = frame_of(sights, number)
            for call in (verdict_ends, lean_ends, bend_ends):
                for spot in (None, (6, 0), (0, 2), (0,), (True, 0), "00"):
                    with self.assertRaises(BadSpot):
                        call(frame, spot)
                with self.assertRaises(OtherPiece):
                    call(frame, outside)

    def test_links_of_fair_worlds_lie_within(self):
        frame = frame_of(Sights([HALF, HALF], seen=[((0, 1), FAR)]), 0)
        for world in inner_worlds(frame):
            self.assertEqual(made_link(world, (0, 0), (1, 0)), Fraction(1, 4))


if __name__ == "__main__":
    unittest.main()
