"""Points 72 and 73 and the interface of hiddensorts/cutting.py."""

import itertools
import unittest
from fractions import Fraction

from hiddensorts.bounds import chance_ends
from hiddensorts.cutting import cut_ends, cut_worlds, join_ends
from hiddensorts.errors import BadNumber, BadTable, IsRinged, NoFair, Outside
from hiddensorts.frames import Stretch, fair_worlds_of, frame_of
from hiddensorts.meeting import cross_signs
from hiddensorts.sights import Sights
from hiddensorts.untold import factor_ends
from tests.oracles import beside, link, look_spots, made_link
from tests.test_frames import RING, TREES, many_sights
from tests.test_meeting import skewed, sure_frame
from tests.tools import FAR, HALF, NO_NUMBERS, as_it_looks, fraction, ratio, rows

STEPS = [Fraction(-1, 50), Fraction(0), Fraction(1, 3), Fraction(4, 5), Fraction(1), Fraction(51, 50)]


def oblongs(count):
    return [frame_of(sights, 0) for sights in many_sights(TREES, count)]


def with_links(sights, pair, links):
    """The sights with a pair more that has these links; None if its table is not fair."""
    entries = [ratio(fraction(sights.singles[pair[0]][a]) * fraction(sights.singles[pair[1]][b]) * (1 + links[a, b]))
               for a, b in rows(pair, sights.sizes)]
    try:
        return sights.adding(pair, entries)
    except BadTable:
        return None


def between(low, high, step):
    """A number above 0 between two ends, or a little beyond them."""
    if 0 <= step <= 1:
        return low + (high - low) * step
    return low * (1 + step) if step < 0 else high * step


class CutTest(unittest.TestCase):

    def test_ends_are_those_of_all_fair_worlds_of_the_factor(self):
        for frame in oblongs(12):
            low, high = [fraction(end) for end in factor_ends(frame)]
            for step in STEPS:
                factor = between(low, high, step)
                found = cut_ends(frame, list(ratio(factor)))
                if not low <= factor <= high:
                    self.assertIsNone(found)
                    with self.assertRaises(Outside):
                        cut_worlds(frame, ratio(factor))
                    continue
                self.assertTrue(as_it_looks(found))
                self.check(frame, factor, found)

    def check(self, frame, factor, ends):
        worlds = cut_worlds(frame, ratio(factor))
        self.assertIs(type(worlds), tuple)
        self.assertEqual((worlds[1].chances[0], worlds[0].chances[0]), ends)
        corners = [frame.s_low, frame.s_high], [frame.t_low, frame.t_high]
        for world in worlds:
            s, t = frame.coordinates(world)
            self.assertEqual(fraction(s) * fraction(t), factor)
            self.assertIs(fair_worlds_of(frame, world), True)
            self.assertTrue(s in corners[0] or t in corners[1])
        # Along the curve of this factor, just beyond the two worlds none is fair.
        low, high = [fraction(frame.coordinates(world)[1]) for world in worlds[::-1]]
        for t in (low * Fraction(999, 1000), high * Fraction(1001, 1000)):
            self.assertIs(frame.holds(ratio(factor / t), ratio(t)), False)
        self.assertIs(frame.holds(ratio(factor * 2 / (low + high)), ratio((low + high) / 2)), True)

    def test_a_pair_more_within_a_side(self):
        frames = bars = 0
        for frame in oblongs(16):
            tilts = frame.tilts
            for side, looks in enumerate(tilts.sides):
                for pair in itertools.combinations(looks, 2):
                    if pair in frame.sights.pairs():
                        continue
                    for step in STEPS:
                        low, high = [fraction(end) for end in factor_ends(frame)]
                        factor = between(low, high, step)
                        c = factor if side == 0 else 1 / factor
                        found = self.new_frame(frame, pair, c)
                        if found is None:
                            self.assertFalse(low <= factor <= high)
                            bars += 1
                            continue
                        self.assertTrue(low <= factor <= high)
                        self.check_new(frame, found, factor)
                        frames += 1
        self.assertGreater(min(frames, bars), 8)

    def new_frame(self, frame, pair, c):
        tilts = frame.tilts
        links = {(a, b): c * fraction(tilts.tilt((pair[0], a))) * fraction(tilts.tilt((pair[1], b)))
                 for a, b in rows(pair, frame.sights.sizes)}
        more = with_links(frame.sights, pair, links)
        try:
            return None if more is None else frame_of(more, 0)
        except NoFair:
            return None

    def check_new(self, frame, found, factor):
        self.assertIs(type(found), Stretch)
        self.assertEqual(found.tilts.base, frame.tilts.base)
        self.assertEqual((found.low, found.high), cut_ends(frame, ratio(factor)))
        self.assertEqual((found.first_end(), found.second_end()), cut_worlds(frame, ratio(factor)))

    def test_one_world(self):
        frame = sure_frame(Fraction(1, 3))
        low, high = factor_ends(frame)
        self.assertEqual(low, high)
        worlds = cut_worlds(frame, low)
        self.assertEqual((worlds[0], worlds[1], cut_ends(frame, low)), (frame.only_one(),) * 2 + (((1, 3), (1, 3)),))

    def test_example(self):
        sights = Sights([HALF] * 4, seen=[((0, 1), FAR), ((2, 3), FAR)])
        first, second = frame_of(sights, 0), frame_of(sights, 1)
        self.assertEqual([cut_ends(first, (1, 2)), cut_ends(first, 2), join_ends(first, 0, second, 0, sign=-1)],
                         [((1, 3), (2, 3)), None, ((1, 16), (1, 1))])

    def test_refuses(self):
        oblong = frame_of(Sights([HALF] * 2, seen=[((0, 1), FAR)]), 0)
        stretch = frame_of(Sights([HALF] * 3, seen=RING), 0)
        for call in (cut_ends, cut_worlds):
            for value in NO_NUMBERS:
                with self.assertRaises(BadNumber):
                    call(oblong, value)
                with self.assertRaises(IsRinged):
                    call(stretch, value)
            with self.assertRaises(IsRinged):
                call(stretch, (1, 4))
        for value in (0, -1, (1, 17), 2):
            self.assertIsNone(cut_ends(oblong, value))
            with self.assertRaises(Outside):
                cut_worlds(oblong, value)


class JoinTest(unittest.TestCase):

    def frames(self):
        """Pairs of frames of two pieces of one sights, beside each other, and the sights."""
        parts = [frame.sights for frame in oblongs(8)] + [skewed(Fraction(1, 4), 3).sights,
                                                          sure_frame(Fraction(1, 3)).sights,
                                                          sure_frame(Fraction(3, 5)).sights,
                                                          skewed(Fraction(2, 3), 2).sights]
        # The pairs of the first piece of each, at most four looks together with those of the next one's.
        for one, two in list(itertools.combinations(parts, 2))[::3]:
            sights = beside(self.less(one), self.less(two))
            yield sights, frame_of(sights, 0), frame_of(sights, 1)

    def less(self, sights):
        """The looks of the first piece alone."""
        while len(sights.singles) > len(frame_of(sights, 0).tilts.looks):
            outside = [look for look in range(len(sights.singles)) if look not in frame_of(sights, 0).tilts.looks]
            sights = sights.without(outside[0])
        return sights

    def joined(self, sights, one, side, two, other_side, v):
        pair = (one.tilts.sides[side][0], two.tilts.sides[other_side][0])
        links = {(a, b): v * fraction(one.tilts.tilt((pair[0], a))) * fraction(two.tilts.tilt((pair[1], b)))
                 for a, b in rows(pair, sights.sizes)}
        more = with_links(sights, pair, links)
        try:
            return None if more is None else frame_of(more, 0)
        except NoFair:
            return None

    def test_a_frame_exactly_within_the_range(self):
        found = bars = none = 0
        for sights, one, two in self.frames():
            for side, other_side, sign in itertools.product((0, 1), (0, 1), (1, -1)):
                ends = join_ends(one, side, two, other_side, sign=sign)
                self.assertEqual(ends is None, sign not in cross_signs(one, two))
                if ends is None:
                    none += 1
                    for v in (Fraction(1, 9), Fraction(1), Fraction(6)):
                        self.assertIsNone(self.joined(sights, one, side, two, other_side, sign * v))
                    continue
                self.assertTrue(as_it_looks(ends))
                low, high = [fraction(end) for end in ends]
                for step in STEPS:
                    v = between(low, high, step)
                    frame = self.joined(sights, one, side, two, other_side, sign * v)
                    self.assertEqual(frame is not None, low <= v <= high)
                    if frame is None:
                        bars += 1
                    else:
                        found += 1
                        self.check(one, side, two, other_side, sign, frame)
        self.assertGreater(min(found, bars, none), 10)

    def check(self, one, side, two, other_side, sign, frame):
        self.assertFalse(frame.ringed)
        mine = set(one.tilts.sides[side] + two.tilts.sides[1 - other_side])
        self.assertIn(mine, [set(looks) for looks in frame.tilts.sides])
        low, high = [fraction(end) for end in chance_ends(frame)]
        first = [fraction(end) for end in chance_ends(one)]
        second = [fraction(end) for end in chance_ends(two)]
        if sign == -1:
            second = [1 - end for end in second[::-1]]
        self.assertTrue(max(first[0], second[0]) <= low <= high <= min(first[1], second[1]))

    def test_every_chance_of_both_is_reached(self):
        for sights, one, two in list(self.frames())[::4]:
            for sign in (1, -1):
                first = [fraction(end) for end in chance_ends(one)]
                second = [fraction(end) for end in chance_ends(two)]
                if sign == -1:
                    second = [1 - end for end in second[::-1]]
                low, high = max(first[0], second[0]), min(first[1], second[1])
                if low > high:
                    continue
                ends = [fraction(end) for end in join_ends(one, 0, two, 0, sign=sign)]
                ranges = []
                for k in range(31):
                    v = ends[0] + (ends[1] - ends[0]) * Fraction(k, 30)
                    frame = self.joined(sights, one, 0, two, 0, sign * v)
                    ranges.append([fraction(end) for end in chance_ends(frame)])
                self.assertEqual((min(found[0] for found in ranges), max(found[1] for found in ranges)), (low, high))

    def test_frames_of_two_sights(self):
        one, two = sure_frame(Fraction(1, 3)), sure_frame(Fraction(2, 3))
        self.assertEqual((join_ends(one, 0, two, 0, sign=1), join_ends(one, 0, one, 0, sign=-1)), (None, None))
        found = join_ends(one, 1, one, 0, sign=1)
        self.assertEqual(found[0], found[1])

    def test_refuses(self):
        oblong = frame_of(Sights([HALF] * 2, seen=[((0, 1), FAR)]), 0)
        stretch = frame_of(Sights([HALF] * 3, seen=RING), 0)
        wrong = NO_NUMBERS + [2, -1, (0, 1), (1, 1)]
        for value in wrong:
            with self.assertRaises(IsRinged):
                join_ends(stretch, value, stretch, value, sign=value)
            with self.assertRaises(BadNumber):
                join_ends(oblong, value, stretch, value, sign=value)
            with self.assertRaises(IsRinged):
                join_ends(oblong, 0, stretch, value, sign=value)
            with self.assertRaises(BadNumber):
                join_ends(oblong, 0, oblong, value, sign=1)
        for value in NO_NUMBERS + [0, 2, -2, (1, 1), (-1, 1)]:
            with self.assertRaises(BadNumber):
                join_ends(oblong, 0, oblong, 1, sign=value)
            with self.assertRaises(IsRinged):
                join_ends(oblong, 1, stretch, 0, sign=value)
        with self.assertRaises(IsRinged):
            join_ends(oblong, 0, stretch, 0, sign=1)
        with self.assertRaises(TypeError):
            join_ends(oblong, 0, oblong, 0, 1)

    def test_links_of_the_joined_piece(self):
        sights = Sights([HALF] * 4, seen=[((0, 1), FAR), ((2, 3), FAR)])
        one, two = frame_of(sights, 0), frame_of(sights, 1)
        frame = self.joined(sights, one, 0, two, 0, Fraction(1, 2))
        self.assertEqual(link(frame.sights, (0, 0), (2, 0)), Fraction(1, 2))
        world = frame.first_end()
        for x in look_spots(frame.sights, 1):
            self.assertEqual(made_link(world, x, (0, 0)), link(frame.sights, x, (0, 0)))


if __name__ == "__main__":
    unittest.main()
