"""Points 83 to 87 and the interface of hiddensorts/standing.py."""

import itertools
import random
import unittest
from fractions import Fraction

from hiddensorts.agreeing import pairs_agree
from hiddensorts.bending import turned_spots, world_of
from hiddensorts.bounds import lean_ends
from hiddensorts.errors import BadPiece, Clash, NoFair, Turned
from hiddensorts.frames import frame_of
from hiddensorts.leans import Leans
from hiddensorts.loose import world_at, world_of_all
from hiddensorts.meeting import balance_ends, cross_signs
from hiddensorts.ratios import root_of
from hiddensorts.sights import Sights
from hiddensorts.standing import balance_range, stand
from hiddensorts.tilts import Tilts
from hiddensorts.untold import share_of, twist_ends
from hiddensorts.webs import Web
from tests.oracles import beside, holds_reason, made_twist, single
from tests.test_barring import inner_worlds
from tests.test_frames import CHAIN, RING, RINGS, TREES, many_sights, piece_spots
from tests.test_leans import FIVE, LOTS, ROW, THIRD, loose_world
from tests.test_meeting import skewed, sure_frame
from tests.threes import holds_lean_reason, leaned_entries, leaned_sights
from tests.tools import (FAR, HALF, NEAR, NO_INTEGERS, QUARTERS, as_it_looks, fraction, random_world, ratio, rows)

SIZES = (2, 3, 2, 3)
PARITY = [(1, 4), 0, 0, (1, 4), 0, (1, 4), (1, 4), 0]


def three(share, skew, *, many=3):
    """Sights of looks alike, all seen together, with links share and leans skew (or less both)."""
    lot = tuple(range(many))
    return leaned_sights([HALF] * many, FIVE, Fraction(share), Fraction(skew), [lot])


def has_three(sights, number):
    return any(len(set(lot) & set(Web(sights).pieces[number])) >= 3 for lot in sights.lots)


def holds_why(sights, word, why):
    """Whether a reason of stand holds."""
    web = Web(sights)
    if word == "fair":
        return why is None
    kind, *rest = why
    if kind in ("rank", "apart", "walks", "ring"):
        return word == "none" and holds_reason(sights, why)
    if kind in ("lean", "lot"):
        numbers = [number for number in range(len(web.pieces)) if has_three(sights, number)]
        return word == "none" and any(holds_lean_reason(sights, number, Tilts(sights, number), why)
                                      for number in numbers if why[1] in sights.lots or why[1][0] in web.pieces[number])
    if kind == "loner":
        lot, row = rest
        inside = lot in sights.lots and row in rows(lot, sights.sizes)
        return word == "none" and inside and not as_loners(sights, lot, row)
    if kind == "balances":
        return word == "none" and rest[0] < rest[1] and (Leans(sights, rest[0]).balance()
                                                         != Leans(sights, rest[1]).balance())
    if kind == "below":
        x, y = rest
        number = web.piece_of(x[0])
        return (word == "loose" and x <= y and not has_three(sights, number)
                and fraction(Tilts(sights, number).told(x, y)) < -1)
    if kind == "bend":
        number = web.piece_of(rest[0][0])
        return word == "loose" and has_three(sights, number) and rest[0] in turned_spots(Leans(sights, number))
    ranges = [[fraction(end) for end in balance_range(sights, number)] for number in rest]
    return (kind == "ranges" and word == "loose" and rest[0] < rest[1]
            and max(low for low, _ in ranges) > min(high for _, high in ranges))


def as_loners(sights, lot, row):
    """Whether the entry is that of the looks in pieces times the singles of the loners."""
    web = Web(sights)
    spots = list(zip(lot, row))
    inner = [spot for spot in spots if web.piece_of(spot[0]) >= 0]
    found = Fraction(1)
    if inner:
        table = sights.table(tuple(look for look, _ in inner))
        found = fraction(table.at([answer for _, answer in inner]))
    for spot in spots:
        if spot not in inner:
            found *= single(sights, spot)
    return found == fraction(sights.table(lot).at(row))


class StandTest(unittest.TestCase):

    def check(self, sights, word=None, kind=None):
        found = stand(sights)
        self.assertIs(type(found), tuple)
        self.assertTrue(holds_why(sights, *found), found)
        if found[1] is not None:
            self.assertTrue(type(found[1]) is tuple and as_it_looks(found[1][1:]))
        if word is not None:
            self.assertEqual((found[0], found[1] and found[1][0]), (word, kind))
        return found[0]

    def test_sights_of_fair_worlds_are_fair(self):
        for seed, lots in enumerate(LOTS + TREES + RINGS + [[(0, 1, 2), (2, 3)], [(0, 1), (2, 3)], []]):
            for low, alike in ((1, 0), (0, 0), (0, 1), (1, 2)):
                world = random_world(8000 + 9 * seed + low + alike, SIZES, 2, low=low, alike=alike)
                self.check(world.sights_of(lots), "fair")
            self.check(random_world(8200 + seed, SIZES, 1).sights_of(lots), "fair")

    def test_sights_of_fair_worlds_with_two_pieces(self):
        for seed in range(10):
            world = random_world(8300 + seed, (2, 3, 2, 2, 3, 2), 2, low=seed % 2, alike=seed % 2)
            for lots in ([(0, 1, 2), (3, 4, 5)], [(0, 1, 2), (3, 4), (4, 5)], [(0, 1), (2, 3), (4, 5)]):
                self.check(world.sights_of(lots), "fair")

    def test_sights_of_loose_worlds_are_not_none(self):
        words = []
        for seed, lots in enumerate(LOTS + TREES + RINGS):
            for turn in range(2):
                words.append(self.check(loose_world(8400 + 2 * seed + turn, SIZES, lots).sights_of(lots)))
        self.assertEqual(set(words), {"fair", "loose"})

    def test_worlds_of_three_sorts(self):
        words = [self.check(random_world(8500 + seed, (2, 3, 2, 2), 3, low=0).sights_of(lots))
                 for seed, lots in enumerate(LOTS + TREES + RINGS)]
        self.assertIn("none", words)

    def test_examples(self):
        chain = Sights([HALF] * 4, seen=CHAIN)
        even = Sights([HALF] * 3, seen=[((0, 1, 2), PARITY)])
        self.assertEqual([stand(chain)[0], stand(even)[0]], ["loose", "none"])
        self.check(chain, "loose", "below")
        self.check(even, "none", "loner")
        self.assertEqual(stand(Sights([THIRD] * 3, seen=[((0, 1, 2), ROW)])), ("fair", None))

    def test_pairs_that_do_not_agree(self):
        self.check(Sights([HALF] * 3, seen=RING[:2] + [((1, 2), QUARTERS)]), "none", "apart")
        ring = [((0, 1), FAR), ((1, 2), FAR), ((2, 3), FAR), ((0, 3), NEAR)]
        self.check(Sights([HALF] * 4, seen=ring), "none", "walks")
        self.check(Sights([HALF] * 4, seen=[((0, 1), FAR), ((2, 3), FAR), ((0, 2), QUARTERS)]), "none", "apart")

    def test_leans_that_do_not_agree(self):
        singles = [HALF] * 4
        seen = [(lot, leaned_entries(singles, FIVE, Fraction(1, 6), skew, lot))
                for lot, skew in (((0, 1, 2), Fraction(1, 5)), ((0, 1, 3), Fraction(1, 4)))]
        self.check(Sights(singles, seen=seen), "none", "lean")

    def test_loners(self):
        # A loner that comes with the parity of two looks of a piece, one of none, and loners among themselves.
        entries = [ratio(Fraction(1, 8) * (1 + Fraction(1, 6) * a * b + Fraction(1, 3) * a * b * c))
                   for a in (1, -1) for b in (1, -1) for c in (1, -1)]
        self.check(Sights([HALF] * 3, seen=[((0, 1, 2), entries)]), "none", "loner")
        self.check(Sights([HALF] * 5, seen=[((0, 1), FAR), ((2, 3, 4), PARITY)]), "none", "loner")
        self.check(Sights([HALF] * 4, seen=[((0, 1), FAR), ((1, 2, 3), PARITY)]), "none", "loner")
        plain = [(1, 8)] * 8
        self.check(Sights([HALF] * 4, seen=[((0, 1), FAR), ((1, 2, 3), plain)]), "fair")
        self.check(Sights([HALF] * 3, seen=[((0, 1, 2), plain)]), "fair")
        self.check(Sights([HALF]), "fair")

    def test_a_loner_beside_a_three(self):
        world = random_world(8600, (2, 2, 3, 2), 2, low=1, alike=1)
        self.check(world.sights_of([(0, 1, 2, 3)]), "fair")
        good = world.sights_of([(1, 2, 3)])
        entries = [fraction(entry) for entry in world.made((0, 1, 2, 3)).entries]
        step = min(entries) / 2
        for place, row in enumerate(rows((0, 1, 2, 3), world.sizes)):
            if row[2] < 2:
                entries[place] += step * (-1) ** sum(row)
        self.check(good.adding((0, 1, 2, 3), [ratio(entry) for entry in entries]), "none", "loner")

    def test_balances(self):
        one, two = three(Fraction(1, 6), Fraction(1, 5)), three(Fraction(1, 6), Fraction(1, 4))
        self.assertEqual(stand(beside(one, two)), ("none", ("balances", 0, 1)))
        self.check(beside(one, two), "none", "balances")
        self.check(beside(one, one), "fair")
        # The balances are equal by other leans: 1 / (4 + skew^2 / share).
        self.check(beside(three(Fraction(1, 8), Fraction(1, 4)), three(Fraction(1, 2), Fraction(-1, 2))), "fair")
        pair = Sights([HALF] * 2, seen=[((0, 1), FAR)])
        self.assertEqual(stand(beside(pair, one, two)), ("none", ("balances", 1, 2)))

    def test_bends(self):
        turned = three(Fraction(1, 4), Fraction(-9, 10))
        self.assertEqual(stand(turned)[0], "loose")
        self.check(turned, "loose", "bend")
        self.check(three(Fraction(1, 4), Fraction(-3, 4)), "fair")

    def test_ranges(self):
        third, quarter = sure_frame(Fraction(1, 3)).sights, sure_frame(Fraction(1, 4)).sights
        self.assertEqual(stand(beside(third, quarter)), ("loose", ("ranges", 0, 1)))
        self.check(beside(third, sure_frame(Fraction(2, 3)).sights), "fair")
        far = skewed(Fraction(1, 2), 1).sights
        self.assertEqual(stand(beside(far, third, quarter)), ("loose", ("ranges", 1, 2)))
        # A three tells its balance: with equal sorts it does not go with a piece of another balance alone.
        self.check(beside(three(Fraction(1, 4), 0), third), "loose", "ranges")
        self.check(beside(three(Fraction(1, 4), 0), far), "fair")
        self.check(beside(sure_frame(Fraction(1, 2)).sights, three(Fraction(1, 4), 0)), "fair")

    def test_it_is_none_exactly_if_a_condition_fails(self):
        # Point 83: without threes, pairs that agree and loners that are dumb leave a real world for each balance.
        for sights in many_sights(TREES, 6) + many_sights(RINGS, 6):
            self.assertTrue(pairs_agree(sights))
            self.assertEqual(self.check(sights), "fair")
            self.assertTrue(world_of_all(sights).stands_behind(sights))

    def test_nothing_is_changed(self):
        seen = [((0, 1, 2), ROW)]
        sights = Sights([THIRD] * 3, seen=seen)
        self.assertEqual(stand(sights), stand(Sights([THIRD] * 3, seen=seen)))
        self.assertEqual(sights, Sights([THIRD] * 3, seen=seen))


class BalanceRangeTest(unittest.TestCase):

    def test_without_a_three(self):
        for sights in many_sights(TREES, 6) + many_sights(RINGS[:1], 6):
            self.assertEqual(balance_range(sights, 0), balance_ends(frame_of(sights, 0)))
            self.assertTrue(as_it_looks(balance_range(sights, 0)))

    def test_with_a_three(self):
        for seed, lots in enumerate(LOTS):
            sights = random_world(8700 + seed, SIZES, 2, low=1).sights_of(lots)
            for number in range(len(Web(sights).pieces)):
                if has_three(sights, number):
                    self.assertEqual(balance_range(sights, number), (Leans(sights, number).balance(),) * 2)

    def test_refuses(self):
        sights = beside(Sights([HALF] * 4, seen=CHAIN), three(Fraction(1, 4), Fraction(-9, 10)))
        for number in NO_INTEGERS + [-1, 2]:
            with self.assertRaises(BadPiece):
                balance_range(sights, number)
        with self.assertRaises(NoFair) as caught:
            balance_range(sights, 0)
        self.assertEqual((caught.exception.x, caught.exception.y), ((0, 0), (3, 1)))
        with self.assertRaises(Turned) as caught:
            balance_range(sights, 1)
        self.assertEqual(caught.exception.x, (4, 0))
        with self.assertRaises(BadPiece):
            balance_range(Sights([HALF]), 0)

    def test_clashes(self):
        apart = Sights([HALF] * 3, seen=RING[:2] + [((1, 2), QUARTERS)])
        seen = [(lot, leaned_entries([HALF] * 4, FIVE, Fraction(1, 6), skew, lot))
                for lot, skew in (((0, 1, 2), Fraction(1, 5)), ((0, 1, 3), Fraction(1, 4)))]
        for sights, word in ((apart, "apart"), (Sights([HALF] * 4, seen=seen), "lean")):
            with self.assertRaises(Clash) as caught:
                balance_range(sights, 0)
            self.assertEqual(caught.exception.reason[0], word)

    def test_turned_by_the_least_spot(self):
        leans = leaned_sights([HALF] * 3, FIVE, Fraction(1, 4), Fraction(9, 10), [(0, 1, 2)])
        with self.assertRaises(Turned) as caught:
            balance_range(leans, 0)
        self.assertEqual(caught.exception.x, (0, 1))


class AcrossTest(unittest.TestCase):
    """Point 85: links across two pieces that have Leans."""

    def across(self, world, sights, factor):
        """The sights with the pair (2, 3) more, its links those of the world times a factor."""
        entries = []
        for a, b in rows((2, 3), sights.sizes):
            shares = single(sights, (2, a)) * single(sights, (3, b))
            entries.append(shares + factor * (fraction(world.made((2, 3)).at((a, b))) - shares))
        return sights.adding((2, 3), [ratio(entry) for entry in entries])

    def test_told_without_any_walk(self):
        many = 0
        for seed in range(8):
            world = random_world(8800 + seed, (2, 2, 3, 2, 3, 2), 2, low=1)
            sights = world.sights_of([(0, 1, 2), (3, 4, 5)])
            if world.chances[0] == (1, 2) or [len(piece) for piece in Web(sights).pieces] != [3, 3]:
                continue
            one, two = Leans(sights, 0), Leans(sights, 1)
            self.assertEqual(one.balance(), two.balance())
            step = 1 / fraction(one.balance()) - 4
            for x, y in itertools.product(piece_spots(one.tilts), piece_spots(two.tilts)):
                link = fraction(world.made((x[0], y[0])).at((x[1], y[1]))) / single(sights, x) / single(sights, y) - 1
                self.assertEqual(link, fraction(one.lean(x)) * fraction(two.lean(y)) / step)
            base = fraction(one.lean(one.tilts.base)) * fraction(two.lean(two.tilts.base))
            self.assertIn(1 if base > 0 else -1, cross_signs(frame_of(sights, 0), frame_of(sights, 1)))
            self.assertEqual(stand(self.across(world, sights, 1)), ("fair", None))
            for factor in (Fraction(1, 2), Fraction(-1, 10), 0):
                self.assertEqual(stand(self.across(world, sights, factor))[0], "none")
            many += 1
        self.assertGreater(many, 4)

    def test_equal_sorts_leave_both_signs(self):
        sights = beside(three(Fraction(1, 4), 0), three(Fraction(1, 4), 0))
        for link, word in ((Fraction(1, 4), "fair"), (Fraction(-1, 4), "fair"), (Fraction(1, 8), "none")):
            entries = [ratio((1 + sign * link) / 4) for sign in (1, -1, -1, 1)]
            self.assertEqual(stand(sights.adding((0, 3), entries))[0], word)


class ThreeMoreTest(unittest.TestCase):
    """Points 86 and 87: a seen three more in a piece that had none."""

    def with_three(self, sights, world, looks):
        return sights.adding(looks, world.made(looks).entries)

    def test_in_a_ringed_piece(self):
        for sights in many_sights(RINGS[:1], 8):
            frame = frame_of(sights, 0)
            first, second = frame.first_end(), frame.second_end()
            looks = Web(sights).pieces[0]
            for world in inner_worlds(frame):
                more = self.with_three(sights, world, looks)
                leans = Leans(more, 0)
                self.assertEqual((stand(more), world_of(leans)), (("fair", None), world))
                ends = world in (first, second)
                self.assertEqual(any(leans.bend(x) == (0, 1) for x in piece_spots(leans.tilts)), ends)
                self.check_end(leans, world == first, world == second)

    def check_end(self, leans, first, second):
        own = {x: fraction(leans.link(x, x)) for x in piece_spots(leans.tilts)}
        for end, sign in ((first, 1), (second, -1)):
            if end:
                top = max(own[x] for x in own if leans.tilts.leaning(x) == sign)
                self.assertEqual(fraction(leans.balance()), top / (1 + top) ** 2)

    def test_twists_at_one_share(self):
        # A ring of looks alike, links 1/4: twists w on all three looks lie between -9/16 and 9/16, at one share.
        sights = Sights([HALF] * 3, seen=RING)
        frame = frame_of(sights, 0)
        self.assertEqual(twist_ends(frame, (0, 0), (1, 0), (2, 0)), ((-3, 16), (3, 16)))
        for k in range(-5, 6):
            twist = Fraction(k, 20)
            links = [Fraction(1, 4) * (a * b + a * c + b * c) for a in (1, -1) for b in (1, -1) for c in (1, -1)]
            signs = [a * b * c for a in (1, -1) for b in (1, -1) for c in (1, -1)]
            entries = [ratio((1 + link + twist * sign) / 8) for link, sign in zip(links, signs)]
            if min(fraction(entry) for entry in entries) < 0:
                continue
            more = sights.adding((0, 1, 2), entries)
            self.assertEqual(stand(more)[0], "fair" if abs(twist) <= Fraction(3, 16) else "loose")

    def test_the_world_left_lies_at_the_share_of_the_twists(self):
        for sights in many_sights(RINGS[:1], 4):
            frame = frame_of(sights, 0)
            looks = Web(sights).pieces[0]
            for world in inner_worlds(frame)[2:6]:
                leans = Leans(self.with_three(sights, world, looks), 0)
                share = fraction(share_of(frame, world_of(leans)))
                x, y, z = [(look, 0) for look in looks]
                one, two = [made_twist(end, x, y, z) for end in (frame.first_end(), frame.second_end())]
                self.assertEqual(made_twist(world, x, y, z), two + share * (one - two))
                low, high = [fraction(end) for end in lean_ends(frame, x)]
                self.assertTrue(low <= fraction(leans.lean(x)) <= high)

    def test_in_a_sided_piece(self):
        words = []
        for sights in many_sights([[(0, 1), (1, 2)]], 8):
            frame = frame_of(sights, 0)
            tilts = frame.tilts
            self.assertEqual(tilts.sides, ((0, 2), (1,)))
            ends = [fraction(end) for end in (frame.s_low, frame.s_high, frame.t_low, frame.t_high)]
            for s, t in itertools.product((ends[0], ends[1], ends[1] * Fraction(11, 10)),
                                          (ends[2], (ends[2] + ends[3]) / 2, ends[3] * Fraction(11, 10))):
                world = world_at(tilts, ratio(s), ratio(t))
                if not world.made((0, 1, 2)).fair:
                    continue
                more = self.with_three(sights, world, (0, 1, 2))
                inside = ends[0] <= s <= ends[1] and ends[2] <= t <= ends[3]
                words.append(stand(more)[0])
                self.assertEqual(words[-1], "fair" if inside else "loose")
                leans = Leans(more, 0)
                self.assertEqual(world_of(leans), world)
                w, c = s - t, s * t
                self.assertIsNotNone(root_of(ratio(w ** 2 + 4 * c)))
                for x, y in itertools.product(piece_spots(tilts)[:2], repeat=2):
                    self.assertEqual(leans.link(x, y), ratio(c * fraction(tilts.tilt(x)) * fraction(tilts.tilt(y))))
        self.assertEqual(set(words), {"fair", "loose"})

    def test_a_real_world_alone(self):
        # s t = 1/4 and s - t = 1/7: w^2 + 4 c = 1 + 1/49 is no square; the world that is left is none of ratios.
        sights = Sights([HALF] * 3, seen=[((0, 1), FAR), ((0, 2), FAR)])
        tilts = Tilts(sights, 0)
        self.assertEqual(tilts.sides, ((0,), (1, 2)))
        entries = leaned_entries([HALF] * 3, FIVE, Fraction(1, 4), Fraction(1, 7), (0, 1, 2))
        more = sights.adding((0, 1, 2), entries)
        self.assertEqual(stand(more), ("fair", None))
        self.assertIsNone(root_of(ratio(Fraction(1, 49) + 1)))

    def test_different_worlds_make_different_threes(self):
        for sights in many_sights([[(0, 1), (1, 2)]], 3) + many_sights(RINGS[:1], 3):
            frame = frame_of(sights, 0)
            if len(frame.tilts.looks) < 3:
                continue
            tables, worlds = [], []
            for world in inner_worlds(frame):
                if world not in worlds:
                    worlds.append(world)
                    tables.append(world.made(frame.tilts.looks[:3]).entries)
            self.assertEqual(len(set(tables)), len(worlds))

    def test_twists_of_unlike_shares(self):
        # Twists between their ends, but not at one share: leans do not agree, so nothing is behind.
        source = random.Random(8900)
        world = random_world(8901, (3, 3, 3), 2, low=1)
        sights = world.sights_of([(0, 1), (0, 2), (1, 2)])
        entries = [fraction(entry) for entry in world.made((0, 1, 2)).entries]
        a, b, c = [source.sample(range(3), 2) for _ in range(3)]
        step = min(entries) / 3
        for (i, u), (j, v), (k, w) in itertools.product(enumerate(a), enumerate(b), enumerate(c)):
            entries[u * 9 + v * 3 + w] += step * (-1) ** (i + j + k)
        more = sights.adding((0, 1, 2), [ratio(entry) for entry in entries])
        self.assertEqual(stand(more)[0], "none")
        self.assertEqual(stand(sights.adding((0, 1, 2), world.made((0, 1, 2)).entries)), ("fair", None))


if __name__ == "__main__":
    unittest.main()
