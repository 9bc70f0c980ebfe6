"""Point 142 and the interface of hiddensorts/showing.py."""

import itertools
import random
import unittest
from fractions import Fraction

from hiddensorts.checks import pair_kind
from hiddensorts.cutting import join_ends
from hiddensorts.errors import BadLook, BadLot, BadTable, HasThree, IsSeen, ManyPieces, NotFair
from hiddensorts.frames import frame_of
from hiddensorts.meeting import cross_signs
from hiddensorts.showing import can_show, shows_well
from hiddensorts.sights import Sights
from hiddensorts.standing import stand
from hiddensorts.tilts import Tilts
from hiddensorts.untold import factor_ends
from hiddensorts.webs import Web
from hiddensorts.worlds import World
from tests.oracles import beside, single
from tests.test_frames import CHAIN, RING, RINGS, TREES, many_sights
from tests.test_meeting import skewed, sure_frame
from tests.test_standing import three
from tests.tools import (FAR, HALF, NEAR, NO_INTEGERS, NO_LISTS, QUARTERS, as_it_looks, fraction, random_world, ratio,
                         rows)

STEPS = [Fraction(-1, 50), Fraction(0), Fraction(2, 5), Fraction(1), Fraction(51, 50)]


def entries_by(sights, pair, links):
    """The entries of a table with the singles and these links; None if one is below 0."""
    entries = [single(sights, (pair[0], a)) * single(sights, (pair[1], b)) * (1 + links[a, b])
               for a, b in rows(pair, sights.sizes)]
    return [ratio(entry) for entry in entries] if min(entries) >= 0 else None


def between(low, high, step):
    low, high = fraction(low), fraction(high)
    if 0 <= step <= 1:
        return low + (high - low) * step
    return low * (1 + step) if step < 0 else high * step


def unseen_pairs(sights):
    return [pair for pair in itertools.combinations(range(len(sights.sizes)), 2) if not sights.sees(pair)]


def moved_entries(source, entries, sizes, pair):
    """The entries moved at four rows, the singles kept; None if one is below 0."""
    found = {row: fraction(entry) for row, entry in zip(rows(pair, sizes), entries)}
    a, b = [source.sample(range(sizes[look]), 2) for look in pair]
    step = Fraction(1, source.choice((40, 90)))
    for (i, x), (j, y) in itertools.product(enumerate(a), enumerate(b)):
        found[x, y] += step * (-1) ** (i + j)
    values = [found[row] for row in rows(pair, sizes)]
    return [ratio(value) for value in values] if min(values) >= 0 else None


class CanShowTest(unittest.TestCase):

    def check(self, sights, pair, links, wanted):
        """Whether the table of these links shows well as wanted, where it is one."""
        entries = entries_by(sights, pair, links)
        if entries is None:
            self.assertFalse(wanted)
            return None
        self.assertIs(shows_well(sights, list(pair), entries), wanted)
        self.assertEqual(stand(sights.adding(pair, entries))[0] == "fair", wanted)
        return entries

    def by_vectors(self, pair, sights, one, two, factor):
        return {(a, b): factor * fraction(one((pair[0], a))) * fraction(two((pair[1], b)))
                for a, b in rows(pair, sights.sizes)}

    def test_one(self):
        source, many = random.Random(13000), 0
        for sights in many_sights(TREES[1:3], 8) + many_sights(RINGS[1:], 6):
            web = Web(sights)
            for pair in unseen_pairs(sights):
                if pair_kind(web, *pair) != "told" or len(web.pieces) > 1 or max(map(len, sights.lots)) > 2:
                    continue
                self.assertEqual(can_show(sights, *pair), ("one",))
                tilts = Tilts(sights, 0)
                table = tilts.told_table(*pair)
                self.assertIs(shows_well(sights, pair, table.entries), True)
                moved = moved_entries(source, table.entries, sights.sizes, pair)
                if moved is not None:
                    self.assertIs(shows_well(sights, pair, moved), False)
                many += 1
        self.assertGreater(many, 5)

    def test_one_of_still_looks(self):
        sights = Sights([HALF, [(1, 3), (2, 3)], HALF, HALF],
                        seen=[((0, 1), [(1, 6), (1, 3), (1, 6), (1, 3)]), ((0, 2), FAR)])
        for pair in ((1, 2), (3, 1)):
            self.assertEqual(can_show(sights, *pair), ("one",))
        plain = [(1, 6), (1, 6), (1, 3), (1, 3)]
        self.assertIs(shows_well(sights, (1, 3), plain), True)
        self.assertIs(shows_well(sights, (1, 3), [(1, 6), (1, 6), (1, 3), (1, 3)]), True)
        self.assertIs(shows_well(sights, (1, 3), [(1, 7), (4, 21), (5, 14), (13, 42)]), False)

    def test_side(self):
        source, sides, words = random.Random(13001), set(), []
        for sights in many_sights(TREES[1:], 12):
            web = Web(sights)
            if len(web.pieces) > 1:
                continue
            frame = frame_of(sights, 0)
            for pair in unseen_pairs(sights):
                if pair_kind(web, *pair) != "side":
                    continue
                side = 0 if pair[0] in frame.tilts.sides[0] else 1
                ends = factor_ends(frame)
                if side == 1:
                    ends = tuple(ratio(1 / fraction(end)) for end in ends[::-1])
                found = can_show(sights, *pair)
                self.assertEqual(found, ("side",) + ends)
                self.assertTrue(as_it_looks(found[1:]))
                self.assertEqual(can_show(sights, pair[1], pair[0]), found)
                sides.add(side)
                tilt = frame.tilts.tilt
                for step in STEPS:
                    k = between(*ends, step)
                    inside = fraction(ends[0]) <= k <= fraction(ends[1])
                    entries = self.check(sights, pair, self.by_vectors(pair, sights, tilt, tilt, k), inside)
                    words.append(inside)
                    if inside and max(sights.sizes[look] for look in pair) > 2:
                        moved = moved_entries(source, entries, sights.sizes, pair)
                        if moved is not None:
                            factor = self.factor_of(sights, pair, moved, tilt)
                            good = factor is not None and fraction(ends[0]) <= factor <= fraction(ends[1])
                            self.assertIs(shows_well(sights, pair, moved), good)
                self.check(sights, pair, self.by_vectors(pair, sights, tilt, tilt, 0), False)
                self.check(sights, pair, self.by_vectors(pair, sights, tilt, tilt, -fraction(ends[0]) / 3), False)
        self.assertEqual(sides, {0, 1})
        self.assertGreater(min(words.count(True), words.count(False)), 5)

    def factor_of(self, sights, pair, entries, tilt):
        """The k with which the links of a table are k tilt(x) tilt(y); None if there is none."""
        factors = set()
        for (a, b), entry in zip(rows(pair, sights.sizes), entries):
            x, y = (pair[0], a), (pair[1], b)
            link = fraction(entry) / single(sights, x) / single(sights, y) - 1
            product = fraction(tilt(x)) * fraction(tilt(y))
            if product != 0 or link != 0:
                factors.add(link / product if product != 0 else None)
        return factors.pop() if len(factors) == 1 else None

    def joined_sights(self):
        parts = [sights for sights in many_sights(TREES[:2], 6) if len(Web(sights).loners) == 0]
        parts += [skewed(Fraction(1, 4), 3).sights, skewed(Fraction(2, 3), 2).sights,
                  sure_frame(Fraction(1, 3)).sights, sure_frame(Fraction(2, 3)).sights,
                  Sights([HALF] * 2, seen=CHAIN[:1])]
        for one, two in itertools.combinations(parts, 2):
            sights = beside(one, two)
            if stand(sights)[0] == "fair" and len(Web(sights).pieces) == 2:
                yield sights

    def test_join(self):
        none, words = 0, []
        for sights in list(self.joined_sights())[::2]:
            one, two = frame_of(sights, 0), frame_of(sights, 1)
            for u, v in itertools.product(one.tilts.looks[:2], two.tilts.looks[-2:]):
                side, other = [0 if look in frame.tilts.sides[0] else 1 for frame, look in ((one, u), (two, v))]
                ranges = [join_ends(one, side, two, other, sign=sign) for sign in (1, -1)]
                found = can_show(sights, u, v)
                self.assertEqual(found, ("join", ranges[0], ranges[1]))
                self.assertEqual(can_show(sights, v, u), found)
                pair = tuple(sorted((u, v)))
                for sign, ends in zip((1, -1), ranges):
                    if ends is None:
                        none += 1
                        ends = ((1, 9), (3, 1))
                        inside = [False] * len(STEPS)
                    else:
                        inside = [0 <= step <= 1 for step in STEPS]
                        if ends[0] == ends[1]:
                            inside = [between(*ends, step) == fraction(ends[0]) for step in STEPS]
                    for step, good in zip(STEPS, inside):
                        factor = sign * between(*ends, step)
                        links = self.by_vectors(pair, sights, one.tilts.tilt, two.tilts.tilt, factor)
                        self.check(sights, pair, links, good)
                        words.append(good)
                self.check(sights, pair, self.by_vectors(pair, sights, one.tilts.tilt, two.tilts.tilt, 0), False)
        self.assertGreater(min(none, words.count(True), words.count(False)), 2)

    def ring_worlds(self):
        for seed in range(12):
            yield random_world(13100 + seed, (2, 2, 2, 2, 2, 3), 2, low=1)
        often, seldom = [(9, 10), (1, 10)], [(1, 10), (9, 10)]
        yield World([(1, 5), (4, 5)], [[often] * 6, [seldom] * 6])
        yield World([(1, 5), (4, 5)], [[often] * 3 + [seldom] * 3, [seldom] * 3 + [often] * 3])

    def ring_sights(self):
        for world in self.ring_worlds():
            sights = world.sights_of([(0, 1), (0, 2), (1, 2), (3, 4), (3, 5), (4, 5)])
            web = Web(sights)
            if [web.is_ringed(number) for number in range(len(web.pieces))] == [True, True]:
                yield sights

    def test_sign(self):
        words, signs_found = [], set()
        for sights in self.ring_sights():
            one, two = frame_of(sights, 0), frame_of(sights, 1)
            signs = cross_signs(one, two)
            signs_found.add(signs)
            x0, x1 = one.tilts.base, two.tilts.base
            square = fraction(one.tilts.told(x0, x0)) * fraction(two.tilts.told(x1, x1))
            root = Fraction(*[round(number ** 0.5) for number in (square.numerator, square.denominator)])
            self.assertEqual(root ** 2, square)
            for pair in ((0, 3), (2, 5)):
                self.assertEqual(can_show(sights, *pair), ("sign", signs))
                self.assertEqual(can_show(sights, *pair[::-1]), ("sign", signs))
                for factor in (1, -1, Fraction(9, 10), Fraction(-11, 10), 0):
                    links = self.by_vectors(pair, sights, lambda x: one.tilts.told(x0, x),
                                            lambda y: two.tilts.told(x1, y), factor / root)
                    self.check(sights, pair, links, factor in signs)
                    words.append(factor in signs)
        self.assertEqual(signs_found, {(1, -1), (1,), (-1,)})
        self.assertGreater(min(words.count(True), words.count(False)), 8)

    def test_free(self):
        ring, pair = Sights([HALF] * 3, seen=RING), Sights([HALF] * 2, seen=CHAIN[:1])
        for sights, looks in ((beside(ring, pair), (0, 3)), (beside(pair, ring), (1, 4)),
                              (beside(pair, Sights([HALF])), (0, 2)), (Sights([HALF] * 2), (0, 1)),
                              (beside(pair, pair, pair, Sights([HALF])), (6, 3)),
                              (beside(ring, pair, pair, Sights([HALF])), (7, 0))):
            self.assertEqual(can_show(sights, *looks), ("free",))

    def test_products_of_singles(self):
        # Two looks of pieces never show that they have nothing to do with each other.
        for sights in list(self.joined_sights())[::3] + list(self.ring_sights())[::3] + many_sights(TREES[1:], 4):
            web = Web(sights)
            for pair in unseen_pairs(sights):
                if -1 in (web.piece_of(pair[0]), web.piece_of(pair[1])):
                    continue
                self.check(sights, pair, {row: Fraction(0) for row in rows(pair, sights.sizes)}, False)

    def test_example(self):
        s = Sights([HALF] * 3, seen=[((0, 1), FAR), ((1, 2), FAR)])
        weak = [(33, 128), (31, 128), (31, 128), (33, 128)]
        self.assertEqual([can_show(s, 0, 2), shows_well(s, (0, 2), FAR), shows_well(s, (0, 2), weak)],
                         [("side", (1, 16), (1, 1)), True, False])

    def test_refuses_in_this_order(self):
        pair, ring = Sights([HALF] * 2, seen=[((0, 1), FAR)]), Sights([HALF] * 3, seen=RING)
        loose = Sights([HALF] * 4, seen=CHAIN)
        none = Sights([HALF] * 3, seen=RING[:2] + [((1, 2), QUARTERS)])
        for sights in (pair, loose, none):
            for look in NO_INTEGERS + [len(sights.sizes), -1]:
                for looks in ((look, 0), (0, look), (look, look), (0, 0)):
                    with self.assertRaises(BadLook):
                        can_show(sights, *looks)
            for looks in ((0, 1), (1, 0)):
                with self.assertRaises(IsSeen):
                    can_show(sights, *looks)
        with self.assertRaises(NotFair):
            can_show(loose, 0, 3)
        with self.assertRaises(NotFair):
            can_show(beside(none, pair), 0, 3)
        # Loose, and with a three.
        turned = beside(three(Fraction(1, 4), Fraction(-9, 10)), pair)
        with self.assertRaises(NotFair):
            can_show(turned, 0, 3)
        with self.assertRaises(IsSeen):
            can_show(turned, 0, 2)
        leaned = beside(three(Fraction(1, 4), 0), pair, pair)
        for looks in ((0, 3), (3, 5), (4, 0)):
            with self.assertRaises(HasThree):
                can_show(leaned, *looks)
        chain = Sights([HALF] * 3, seen=[((0, 1), FAR), ((1, 2), FAR)])
        for sights, looks in ((beside(chain, pair), (0, 2)), (beside(pair, pair, pair), (0, 2)),
                              (beside(ring, ring, pair), (0, 3)), (beside(ring, pair, pair), (0, 3)),
                              (beside(ring, pair, pair), (3, 5)), (beside(ring, chain), (3, 5))):
            with self.assertRaises(ManyPieces):
                can_show(sights, *looks)
        # A told pair has one answer, however many pieces there are.
        four = Sights([HALF] * 4, seen=[((0, 1), FAR), ((1, 2), FAR), ((2, 3), FAR)])
        self.assertEqual(can_show(beside(four, pair), 0, 3), ("one",))


class ShowsWellTest(unittest.TestCase):

    def test_any_lot(self):
        words = []
        for seed in range(6):
            world = random_world(13200 + seed, (2, 3, 2, 2), 2, low=1)
            sights = world.sights_of([(0, 1), (1, 2)])
            for lot in ((0, 2), (0, 1, 2), (2, 3), (0, 1, 2, 3), (1, 2, 3)):
                self.assertIs(shows_well(sights, lot, world.made(lot).entries), True)
            other = random_world(13300 + seed, (2, 3, 2, 2), 2, low=1)
            for lot in ((0, 1), (0, 2), (0, 1, 2)):
                words.append(shows_well(sights, lot, other.made(lot).entries))
        self.assertEqual(set(words), {False})

    def test_loose_and_none(self):
        loose = Sights([HALF] * 4, seen=CHAIN[:2])
        self.assertIs(shows_well(loose, (2, 3), NEAR), False)
        self.assertIs(shows_well(loose, (2, 3), FAR), True)
        self.assertIs(shows_well(Sights([HALF] * 4, seen=CHAIN), (0, 2), FAR), False)
        self.assertIs(shows_well(Sights([HALF] * 3, seen=RING[:2]), (1, 2), QUARTERS), False)

    def test_disagreeing_lots(self):
        sights = Sights([HALF] * 3, seen=[((0, 1), FAR)])
        self.assertIs(shows_well(sights, (0, 1), NEAR), False)
        self.assertIs(shows_well(sights, (0, 1), FAR), True)
        self.assertIs(shows_well(sights, (1, 2), [(1, 2), 0, (1, 4), (1, 4)]), False)

    def test_refuses(self):
        sights = Sights([HALF] * 3, seen=[((0, 1), FAR)])
        for lot, place in [(value, -1) for value in NO_LISTS] + [([3], 0), ([0], -1), ([], -1), ([1, 0], 1)]:
            with self.assertRaises(BadLot) as caught:
                shows_well(sights, lot, None)
            self.assertEqual(caught.exception.place, place)
        for entries, place in ((None, -1), ([1], -1), ([(1, 2), (1, 2), (1, 2), (-1, 2)], 3), ([(1, 3)] * 4, -1),
                               ([1, "0", 0, 0], 1)):
            with self.assertRaises(BadTable) as caught:
                shows_well(sights, (0, 1), entries)
            self.assertEqual(caught.exception.place, place)

    def test_nothing_is_changed(self):
        sights = Sights([HALF] * 3, seen=[((0, 1), FAR)])
        shows_well(sights, (0, 2), FAR)
        self.assertEqual(sights, Sights([HALF] * 3, seen=[((0, 1), FAR)]))


if __name__ == "__main__":
    unittest.main()
