"""Points 46 to 52 and the interface of hiddensorts/frames.py."""

import itertools
import random
import unittest
from fractions import Fraction

from hiddensorts.errors import BadNumber, BadPiece, BadTable, Clash, NeedsRoot, NoFair, NotBehind, Outside
from hiddensorts.frames import Frame, Oblong, Stretch, fair_worlds_of, frame_of
from hiddensorts.loose import world_at, world_with
from hiddensorts.making import zeros
from hiddensorts.roots import fits_chance, some_chance
from hiddensorts.sights import Sights
from hiddensorts.tilts import Tilts
from hiddensorts.webs import Web
from hiddensorts.worlds import World
from tests.oracles import is_piece_world, linked_sights, look_spots, random_vectors, single
from tests.tools import (FAR, HALF, NEAR, NO_NUMBERS, QUARTERS, as_it_looks, fraction, random_chances, random_world,
                         ratio, spots)

CHAIN = [((0, 1), NEAR), ((1, 2), FAR), ((2, 3), NEAR)]
RING = [((0, 1), FAR), ((0, 2), FAR), ((1, 2), FAR)]
TREES = [[(0, 1)], [(0, 1), (1, 2)], [(0, 1), (1, 2), (2, 3)], [(0, 2), (2, 3)]]
RINGS = [[(0, 1), (1, 2), (0, 2)], [(0, 1, 2), (2, 3)], [(1, 2), (2, 3), (1, 3)]]


def random_sights(seed, lots, *, scale=12, sizes=(2, 3, 3, 2)):
    """Sights with small links of the pairs of these lots; None if a table would have an entry below 0."""
    source = random.Random(seed)
    singles = [random_chances(source, size, high=3) for size in sizes]
    pairs = {pair for lot in lots for pair in itertools.combinations(lot, 2)}
    try:
        return linked_sights(singles, random_vectors(source, singles), {pair: Fraction(1, scale) for pair in pairs})
    except BadTable:
        return None


def many_sights(kind, count, *, scales=(3, 5, 8, 12)):
    """Sights with a frame: of random links, and of random fair worlds."""
    found, seed = [], 5000
    while len(found) < count:
        seed += 1
        lots = kind[seed % len(kind)]
        sights = random_sights(seed, lots, scale=scales[seed % len(scales)])
        if seed % 3 == 0:
            sights = random_world(seed, (2, 3, 2, 2), 2, low=seed % 2).sights_of(lots)
        if sights is not None and Web(sights).pieces and Web(sights).is_ringed(0) == (lots in RINGS):
            if all(fraction(link) >= -1 for link in told_links(Tilts(sights, 0)).values()):
                found.append(sights)
    return found


def piece_spots(tilts):
    return [spot for look in tilts.looks for spot in look_spots(tilts.sights, look)]


def told_links(tilts):
    found = {(x, y): tilts.told(x, y) for x, y in itertools.product(piece_spots(tilts), repeat=2)}
    return {pair: link for pair, link in found.items() if link is not None}


def around(low, high):
    """Numbers at and about the ends of a range, inside and outside."""
    step = (high - low) / 7 + Fraction(1, 97)
    return [low, high, (low + high) / 2, low - low / 50, high + high / 50, low + (high - low) / 3, high + step]


def given(table, spot):
    """The table of a told pair given a spot of it, whose look may be asked again, as fractions."""
    found = table.given(spot)
    return [fraction(entry) for entry in found.entries]


class OblongTest(unittest.TestCase):

    def frames(self):
        for sights in many_sights(TREES, 24):
            yield frame_of(sights, 0)

    def test_attributes(self):
        for frame in self.frames():
            self.assertIs(type(frame), Oblong)
            self.assertIsInstance(frame, Frame)
            self.assertEqual((Oblong.KIND, frame.KIND, frame.ringed, frame.number), ("oblong", "oblong", False, 0))
            self.assertIs(frame.sights, frame.tilts.sights)
            high_a, low_a, high_b, low_b = [fraction(height) for height in frame.tilts.heights()]
            self.assertEqual((frame.s_low, frame.s_high, frame.t_low, frame.t_high),
                             tuple(ratio(end) for end in (high_b, 1 / low_a, low_b, 1 / high_a)))
            self.assertTrue(as_it_looks((frame.s_low, frame.s_high, frame.t_low, frame.t_high)))

    def test_fair_exactly_within(self):
        inside = 0
        for frame in self.frames():
            ends = [fraction(end) for end in (frame.s_low, frame.s_high, frame.t_low, frame.t_high)]
            for s, t in itertools.product(around(*ends[:2]), around(*ends[2:])):
                world = world_at(frame.tilts, ratio(s), ratio(t))
                within = ends[0] <= s <= ends[1] and ends[2] <= t <= ends[3]
                self.assertEqual((world.fair, frame.holds(ratio(s), list(ratio(t)))), (within, within))
                self.assertEqual(fair_worlds_of(frame, world), within)
                self.assertEqual(frame.coordinates(world), (ratio(s), ratio(t)))
                if within:
                    self.assertEqual(frame.at(ratio(s), ratio(t)), world)
                    self.check_border(frame, world, s in ends[:2] or t in ends[2:])
                    inside += 1
                else:
                    with self.assertRaises(Outside):
                        frame.at(ratio(s), ratio(t))
        self.assertGreater(inside, 200)

    def check_border(self, frame, world, border):
        met = [spot for _, spot in zeros(world) if spot[0] in frame.tilts.looks]
        self.assertEqual(bool(met), border)

    def test_corners(self):
        for frame in self.frames():
            s, t = (frame.s_low, frame.s_high), (frame.t_low, frame.t_high)
            corners = {(a, b): frame.corner(a, b) for a in (0, 1) for b in (0, 1)}
            for (a, b), world in corners.items():
                self.assertEqual(world, world_at(frame.tilts, s[a], t[b]))
                self.assertTrue(is_piece_world(world, frame.sights, 0, frame.tilts.base))
            self.assertEqual((frame.first_end(), frame.second_end()), (corners[0, 1], corners[1, 0]))
            chances = [fraction(world.chances[0]) for world in corners.values()]
            self.assertEqual(fraction(frame.first_end().chances[0]), max(chances))
            self.assertEqual(fraction(frame.second_end().chances[0]), min(chances))
            unlike = []
            for world in corners.values():
                if world not in unlike:
                    unlike.append(world)
            self.assertEqual(frame.end_worlds(), unlike)
            self.assertIs(type(frame.end_worlds()), list)

    def test_corners_by_told_tables(self):
        for frame in self.frames():
            tilts = frame.tilts
            for corner, mine, theirs in (((0, 0), 0, 1), ((1, 1), 1, 0)):
                world = frame.corner(*corner)
                far = [y for look in tilts.sides[theirs] for y in look_spots(tilts.sights, look)]
                values = [fraction(tilts.tilt(y)) for y in far]
                for look in tilts.sides[mine]:
                    for sort, end in ((0, max(values)), (1, min(values))):
                        for y in [y for y, value in zip(far, values) if value == end]:
                            chances = given(tilts.told_table(look, y[0]), y)
                            self.assertEqual([fraction(entry) for entry in world.sorts[sort][look]], chances)

    def test_example(self):
        frame = frame_of(Sights([HALF, HALF], seen=[((0, 1), FAR)]), 0)
        corner = frame.corner(0, 0)
        self.assertEqual([frame.s_low, frame.t_high, frame.first_end().chances, corner.sorts[0], corner.sorts[1]],
                         [(1, 4), (1, 1), ((4, 5), (1, 5)), (((5, 8), (3, 8)), ((1, 1), (0, 1))),
                          (((3, 8), (5, 8)), ((0, 1), (1, 1)))])

    def test_only_one(self):
        always = Sights([HALF, HALF], seen=[((0, 1), [(1, 2), 0, 0, (1, 2)])])
        frame = frame_of(always, 0)
        self.assertEqual((frame.s_low, frame.s_high, frame.t_low, frame.t_high), ((1, 1),) * 4)
        self.assertEqual(frame.only_one(), frame.corner(0, 0))
        self.assertEqual(frame.end_worlds(), [frame.corner(1, 1)])
        words = [self.check_only_one(frame) for frame in self.frames()]
        self.assertGreater(words.count(False), 10)

    def check_only_one(self, frame):
        told, tilts = told_links(frame.tilts), frame.tilts
        sides = [[x for look in side for x in look_spots(tilts.sights, look)] for side in tilts.sides]
        four = any(told[x, y] == told[x2, y2] == (-1, 1) and fraction(told[x, y2]) > 0
                   for x, x2 in itertools.product(sides[0], repeat=2)
                   for y, y2 in itertools.product(sides[1], repeat=2))
        self.assertEqual(frame.only_one() is not None, four)
        if not four and (-1, 1) in told.values():
            self.assertEqual([frame.s_low == frame.s_high, frame.t_low == frame.t_high].count(True), 1)
        if frame.only_one() is not None:
            self.assertTrue(frame.only_one() == frame.first_end() == frame.second_end())
            self.assertEqual(len(frame.end_worlds()), 1)
        return four

    def test_an_oblong_of_one_line(self):
        # One told link of -1 and no four such spots: an answer of each look is never met with one of the other.
        third = [(1, 3), (2, 3)]
        frame = frame_of(Sights([third, third], seen=[((0, 1), [0, (1, 3), (1, 3), (1, 3)])]), 0)
        self.assertFalse(self.check_only_one(frame))
        self.assertEqual([frame.s_low == frame.s_high, frame.t_low == frame.t_high].count(True), 1)
        self.assertEqual(len(frame.end_worlds()), 2)
        self.assertIsNone(frame.only_one())

    def test_worlds_that_are_none_of_the_piece(self):
        frame = frame_of(Sights([HALF] * 3, seen=[((0, 1), FAR)]), 0)
        good = frame.first_end()
        wrong = [good.renamed((1, 0)), good.without(2), World.even((2, 2, 2), 2), World.even((2, 2, 2), 1),
                 World.even((2, 2, 2), 3), World.even((2, 3, 2), 2), World((1,), [good.sorts[0]]),
                 World(good.chances, [good.sorts[0], good.sorts[0]]),
                 World(((1, 2), (1, 2)), good.sorts), self.not_dumb(good), self.other_links(good)]
        for world in wrong:
            with self.assertRaises(NotBehind):
                frame.coordinates(world)
            self.assertIs(fair_worlds_of(frame, world), False)
        self.assertEqual(frame.coordinates(good), (frame.s_low, frame.t_high))
        self.assertIs(fair_worlds_of(frame, good), True)
        loose = world_at(frame.tilts, 5, 5)
        self.assertEqual((frame.coordinates(loose), fair_worlds_of(frame, loose)), (((5, 1), (5, 1)), False))

    def not_dumb(self, world):
        """The same world but for the look outside, which tells now and keeps its singles."""
        p, q = [fraction(chance) for chance in world.chances]
        rises = (Fraction(1, 2) + q / 4, Fraction(1, 2) - p / 4)
        sorts = [list(sort) for sort in world.sorts]
        for sort, chance in zip(sorts, rises):
            sort[2] = (ratio(chance), ratio(1 - chance))
        return World(world.chances, sorts)

    def other_links(self, world):
        """A world with the singles of the piece in which all splits of one look are halved."""
        sorts = [list(sort) for sort in world.sorts]
        for sort in sorts:
            sort[1] = tuple(ratio((fraction(chance) + Fraction(1, 2)) / 2) for chance in sort[1])
        return World(world.chances, sorts)


class StretchTest(unittest.TestCase):

    def frames(self):
        for sights in many_sights(RINGS, 16):
            yield frame_of(sights, 0)

    def test_attributes(self):
        for frame in self.frames():
            self.assertIs(type(frame), Stretch)
            self.assertIsInstance(frame, Frame)
            self.assertEqual((Stretch.KIND, frame.KIND, frame.ringed, frame.number), ("stretch", "stretch", True, 0))
            self.assertIs(frame.sights, frame.tilts.sights)
            high, low = [fraction(height) for height in frame.tilts.heights()]
            self.assertEqual((frame.low, frame.high), (ratio(low / (1 + low)), ratio(1 / (1 + high))))

    def fitting_chances(self, frame):
        """Chances with a world in ratios, all over the range from 0 to 1."""
        own = fraction(frame.tilts.told(frame.tilts.base, frame.tilts.base))
        return [ratio(1 / (1 + own * c ** 2)) for c in (Fraction(k, 8) * 2 ** (k % 3) for k in range(1, 40))]

    def test_fair_exactly_within(self):
        inside = outside = 0
        for frame in self.frames():
            for p in self.fitting_chances(frame) + [frame.low, frame.high]:
                world = world_with(frame.tilts, p)
                within = fraction(frame.low) <= fraction(p) <= fraction(frame.high)
                self.assertEqual((world.fair, frame.holds(list(p))), (within, within))
                self.assertEqual(fair_worlds_of(frame, world), within)
                if within:
                    self.assertEqual(frame.at(p), world)
                    inside += 1
                else:
                    outside += 1
                    with self.assertRaises(Outside):
                        frame.at(p)
        self.assertGreater(min(inside, outside), 50)

    def test_holds_any_number(self):
        frame = frame_of(Sights([HALF] * 3, seen=RING), 0)
        found = [frame.holds(p) for p in ((1, 5), (4, 5), (1, 2), (2, 11), (9, 11), 0, 1, -3, 7)]
        self.assertEqual(found, [True, True, True, False, False, False, False, False, False])

    def test_roots_that_are_no_ratios(self):
        frame = frame_of(Sights([HALF] * 3, seen=RING), 0)
        self.assertIs(fits_chance(frame.tilts, (1, 3)), False)
        with self.assertRaises(NeedsRoot) as caught:
            frame.at((1, 3))
        self.assertEqual(caught.exception.number, (1, 18))
        with self.assertRaises(Outside):
            frame.at((1, 9))
        self.assertEqual(frame.at((1, 2)).chances, ((1, 2), (1, 2)))

    def test_ends(self):
        for frame in self.frames():
            first, second = frame.first_end(), frame.second_end()
            self.assertEqual((first.chances[0], second.chances[0]), (frame.high, frame.low))
            for world in (first, second):
                self.assertTrue(world.fair and is_piece_world(world, frame.sights, 0, frame.tilts.base))
            self.assertEqual(frame.end_worlds(), [first, second] if first != second else [first])
            self.check_ends(frame.tilts, first, second)

    def check_ends(self, tilts, first, second):
        leaning = {spot: tilts.leaning(spot) for spot in piece_spots(tilts)}
        for world, sign, sort in ((first, 1, 0), (second, -1, 1)):
            own = {y: fraction(tilts.told(y, y)) for y in leaning if leaning[y] == sign}
            top = max(own.values())
            for y in [y for y in own if own[y] == top]:
                self.assertEqual(fraction(world.chances[sort]), 1 / (1 + top))
                self.assertEqual(world.chance_at(1 - sort, y), (0, 1))
                for look in tilts.looks:
                    found = [fraction(chance) for chance in world.sorts[sort][look]]
                    self.assertEqual(found, given(tilts.told_table(look, y[0]), y))

    def test_example(self):
        frame = frame_of(Sights([HALF] * 3, seen=RING), 0)
        self.assertEqual([frame.low, frame.high, frame.first_end().sorts[0][0], frame.first_end().sorts[1][0]],
                         [(1, 5), (4, 5), ((5, 8), (3, 8)), ((0, 1), (1, 1))])

    def test_only_one(self):
        words = []
        for frame in self.frames():
            one = (-1, 1) in told_links(frame.tilts).values()
            self.assertEqual(frame.only_one() is not None, one)
            self.assertEqual(frame.low == frame.high, one)
            words.append(one)
        sure = World(((1, 3), (2, 3)), [[[1, 0], HALF, [(1, 3), (2, 3)]], [[0, 1], [1, 0], HALF]])
        frame = frame_of(sure.sights_of([(0, 1), (1, 2), (0, 2)]), 0)
        self.assertEqual(frame.only_one(), frame.first_end())
        self.assertTrue(frame.only_one().same_as(sure))
        self.assertEqual(frame.end_worlds(), [frame.second_end()])
        self.assertIn(False, words)

    def test_worlds_that_are_none_of_the_piece(self):
        frame = frame_of(Sights([HALF] * 4, seen=RING), 0)
        good = frame.first_end()
        wrong = [good.renamed((1, 0)), good.without(3), World.even((2, 2, 2, 2), 2), World.even((2, 2, 2, 2), 3),
                 World.even((2, 2, 2, 2), 1), World(((1, 3), (2, 3)), good.sorts), World(((1, 2), (1, 2)), good.sorts)]
        for world in wrong:
            self.assertIs(fair_worlds_of(frame, world), False)
        self.assertIs(fair_worlds_of(frame, good), True)
        self.assertIs(fair_worlds_of(frame, world_with(frame.tilts, some_chance(frame.tilts))), True)


class FairWorldsTest(unittest.TestCase):

    def test_a_frame_exactly_without_links_below_minus_1(self):
        frames = bars = 0
        for seed in range(240):
            lots = (TREES[2], RINGS[0], RINGS[1], TREES[2])[seed % 4]
            sights = random_sights(5600 + seed, lots, scale=(2, 3, 4)[seed % 3], sizes=(2, 2, 3, 2))
            if sights is None:
                continue
            tilts = Tilts(sights, 0)
            below = sorted((x, y) for (x, y), link in told_links(tilts).items() if fraction(link) < -1 and x <= y)
            if below:
                with self.assertRaises(NoFair) as caught:
                    frame_of(sights, 0)
                self.assertEqual((caught.exception.x, caught.exception.y), below[0])
                bars += 1
            else:
                self.assertTrue(frame_of(sights, 0).first_end().fair)
                frames += 1
            fair = [tilts.told_table(u, v).fair for u in tilts.looks for v in tilts.looks if tilts.told_table(u, v)]
            self.assertEqual(all(fair), not below)
        self.assertGreater(min(frames, bars), 5)

    def test_the_world_that_made_the_sights_is_in_the_frame(self):
        for seed in range(20):
            world = random_world(5700 + seed, (2, 3, 2), 2, low=0)
            sights = world.sights_of((RINGS[0], TREES[1], [(0, 1, 2)])[seed % 3])
            if [len(piece) for piece in Web(sights).pieces] != [3]:
                continue
            frame = frame_of(sights, 0)
            base = frame.tilts.base
            if fraction(world.chance_at(0, base)) < fraction(world.chance_at(1, base)):
                world = world.renamed((1, 0))
            self.assertIs(fair_worlds_of(frame, world), True)
            if frame.KIND == "oblong":
                self.assertEqual(frame.at(*frame.coordinates(world)), world)

    def test_one_rule_for_both(self):
        for sights in many_sights(TREES, 10) + many_sights(RINGS, 10):
            frame, tilts = frame_of(sights, 0), Tilts(sights, 0)
            ends = [max(fraction(link) for (x, y), link in told_links(tilts).items()
                        if tilts.leaning(x) == tilts.leaning(y) == sign) for sign in (1, -1)]
            self.assertEqual(fraction(frame.first_end().chances[0]), 1 / (1 + ends[0]))
            self.assertEqual(fraction(frame.second_end().chances[0]), ends[1] / (1 + ends[1]))
            self.assertLessEqual(ends[0] * ends[1], 1)

    def test_looks_outside_are_dumb(self):
        sights = Sights([HALF, [(1, 3)] * 3, HALF, HALF], seen=[((0, 2), FAR), ((2, 3), QUARTERS)])
        for world in frame_of(sights, 0).end_worlds():
            for look in (1, 3):
                self.assertTrue(world.sorts[0][look] == world.sorts[1][look] == sights.singles[look])

    def test_returned_lists_are_fresh(self):
        for seen in (RING, RING[:1]):
            frame = frame_of(Sights([HALF] * 3, seen=seen), 0)
            first = frame.end_worlds()
            kept = list(first)
            first.clear()
            self.assertEqual(frame.end_worlds(), kept)


class WrongTest(unittest.TestCase):

    def setUp(self):
        self.oblong = frame_of(Sights([HALF, HALF], seen=[((0, 1), FAR)]), 0)
        self.stretch = frame_of(Sights([HALF] * 3, seen=RING), 0)

    def test_frame_of(self):
        clash = Sights([HALF] * 3, seen=RING[:2] + [((1, 2), QUARTERS)])
        chain = Sights([HALF] * 4, seen=CHAIN)
        for sights in (clash, chain, Sights([HALF])):
            for number in (None, True, -1, 1, "0", (0,)):
                with self.assertRaises(BadPiece):
                    frame_of(sights, number)
        with self.assertRaises(Clash) as caught:
            frame_of(clash, 0)
        self.assertEqual(caught.exception.reason, ("apart", 1, 2))
        with self.assertRaises(NoFair) as caught:
            frame_of(chain, 0)
        self.assertEqual((caught.exception.x, caught.exception.y), ((0, 0), (3, 1)))

    def test_a_clash_is_told_before_links_below_minus_1(self):
        # The chain's told link is -9/4; a seen pair of its ends that is not linked makes a clash.
        sights = Sights([HALF] * 4, seen=CHAIN + [((0, 2), QUARTERS)])
        with self.assertRaises(Clash):
            frame_of(sights, 0)

    def test_numbers(self):
        for value in NO_NUMBERS:
            for call in (lambda: self.oblong.holds(value, 1), lambda: self.oblong.holds(1, value),
                         lambda: self.oblong.at(value, 99), lambda: self.oblong.at(99, value),
                         lambda: self.stretch.holds(value), lambda: self.stretch.at(value)):
                with self.assertRaises(BadNumber):
                    call()
        for value in NO_NUMBERS + [2, -1, (1, 1), (0, 1)]:
            for pair in ((value, 0), (0, value), (value, value)):
                with self.assertRaises(BadNumber):
                    self.oblong.corner(*pair)
        for s, t in ((0, 1), (1, 0), (-1, -1), ((1, 5), 1), (1, (9, 8))):
            with self.assertRaises(Outside):
                self.oblong.at(s, t)
        for p in (0, 1, (1, 6), -1, 2):
            with self.assertRaises(Outside):
                self.stretch.at(p)

    def test_integers_serve(self):
        self.assertEqual(self.oblong.at(1, 1), self.oblong.corner(1, 1))
        self.assertIs(self.oblong.holds(1, (2, 2)), True)
        self.assertEqual(single(self.oblong.sights, (0, 0)), Fraction(1, 2))
        self.assertEqual(spots(self.oblong.sights.sizes), piece_spots(self.oblong.tilts))


if __name__ == "__main__":
    unittest.main()
