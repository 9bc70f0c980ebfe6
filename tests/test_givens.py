"""Points 85, 88 and 89 and the interface of hiddensorts/givens.py."""

import itertools
import unittest
from fractions import Fraction

from hiddensorts.bending import turned_spots, world_of
from hiddensorts.errors import BadSpot, NeverMet, NoThree, OtherPiece, Turned, Unlike
from hiddensorts.frames import frame_of
from hiddensorts.giving import bend, given_world, split
from hiddensorts.givens import across_link, given_sights, shown_lots
from hiddensorts.leans import Leans
from hiddensorts.meeting import cross_signs
from hiddensorts.opening import opened
from hiddensorts.sights import Sights
from hiddensorts.standing import stand
from hiddensorts.webs import Web
from hiddensorts.worlds import World
from tests.oracles import beside, link, look_spots, made_link, single
from tests.test_frames import piece_spots
from tests.test_leans import FIVE, by_base, pieces_with_threes
from tests.test_standing import three
from tests.threes import leaned_entries, leaned_sights
from tests.tools import FAR, HALF, as_it_looks, fraction, random_world, ratio, rows, spots

# The worlds of six looks fall into two pieces by these lots.
TWO = [(0, 1, 2), (3, 4, 5)]


def pair_worlds():
    """Worlds of two sorts whose sights of two lots are two pieces with leans."""
    for seed in range(10):
        world = random_world(9000 + seed, (2, 2, 3, 2, 3, 2), 2, low=seed % 2)
        sights = world.sights_of(TWO)
        if [len(piece) for piece in Web(sights).pieces] == [3, 3]:
            yield world, sights


def good_leans():
    """Leans of worlds with no bend below 0, and the worlds, sort 0 as at the base spot."""
    for world, sights, number in pieces_with_threes():
        leans = Leans(sights, number)
        if not turned_spots(leans):
            yield by_base(world, leans.tilts.base), leans
    # No world in ratios is behind these ones.
    for share, skew in ((Fraction(1, 5), Fraction(1, 7)), (Fraction(1, 4), Fraction(-3, 4)), (Fraction(1, 6), 0)):
        yield None, Leans(leaned_sights([HALF] * 4, FIVE, share, skew, [(0, 1, 2, 3)]), 0)


def covs_of(sights, number):
    """cov(y, z) for the spots of two looks of a piece, all seen together."""
    looks = Web(sights).pieces[number] if number is not None else range(len(sights.sizes))
    found = {}
    for look, other in itertools.combinations(looks, 2):
        for y, z in itertools.product(look_spots(sights, look), look_spots(sights, other)):
            found[y, z] = link(sights, y, z) * single(sights, y) * single(sights, z)
    return found


class GivenSightsTest(unittest.TestCase):

    def given(self, leans, x):
        """given_sights, or the least spot that is never met with x."""
        others = [y for y in piece_spots(leans.tilts) if y[0] != x[0]]
        never = [y for y in others if leans.link(x, y) == (-1, 1)]
        if not never:
            return given_sights(leans, list(x))
        with self.assertRaises(NeverMet) as caught:
            given_sights(leans, x)
        self.assertEqual(caught.exception.spot, min(never))
        return None

    def test_the_sights_of_the_world_given_the_spot(self):
        many = refused = 0
        for world, leans in good_leans():
            for x in piece_spots(leans.tilts):
                sights = self.given(leans, x)
                if sights is None:
                    refused += 1
                    continue
                self.check(world, leans, x, sights)
                many += 1
        self.assertGreater(many, 100)
        self.assertGreater(refused, 1)

    def check(self, world, leans, x, sights):
        others = tuple(look for look in leans.looks if look != x[0])
        self.assertIs(type(sights), Sights)
        self.assertEqual(sights.lots, (tuple(range(len(others))),))
        table = opened(leans, leans.looks).given(x)
        self.assertEqual(sights.table(sights.lots[0]).entries, table.entries)
        self.assertEqual(sights.singles, tuple(table.left_to((look,)).entries for look in others))
        if world is not None:
            less = given_world(world, x)
            self.assertEqual(sights.table(sights.lots[0]).entries, less.made(others).entries)
        self.assertEqual(stand(sights), ("fair", None))
        self.check_covs(leans, x, others, sights)

    def check_covs(self, leans, x, others, sights):
        bent = fraction(leans.bend(x))
        for (y, z), value in covs_of(sights, None).items():
            old = [(others[spot[0]], spot[1]) for spot in (y, z)]
            before = fraction(leans.link(*old)) * single(leans.sights, old[0]) * single(leans.sights, old[1])
            self.assertEqual(value, bent * before)
        pairs = list(itertools.combinations(range(len(others)), 2))
        self.assertEqual(sights.linked(), pairs if bent > 0 else [])
        if bent > 0 and len(others) >= 3:
            less = Leans(sights, 0)
            self.assertEqual(fraction(less.balance()), bent * fraction(leans.balance()))
            for y in spots(sights.sizes):
                old = (others[y[0]], y[1])
                self.assertEqual(fraction(less.bend(y)),
                                 fraction(leans.bend(old)) / (1 + fraction(leans.link(x, old))) ** 2)

    def test_two_spots_in_either_order(self):
        many = 0
        for world, leans in good_leans():
            if len(leans.looks) < 4:
                continue
            for x, y in itertools.permutations(piece_spots(leans.tilts), 2):
                if x[0] < y[0] and leans.bend(x)[0] > 0 and leans.bend(y)[0] > 0:
                    one = given_sights(Leans(given_sights(leans, x), 0), self.moved(leans, y, x))
                    two = given_sights(Leans(given_sights(leans, y), 0), self.moved(leans, x, y))
                    self.assertEqual(one, two)
                    many += 1
        self.assertGreater(many, 40)

    def moved(self, leans, spot, gone):
        """The spot under its number among the looks of the piece less that of the gone spot."""
        others = [look for look in leans.looks if look != gone[0]]
        return (others.index(spot[0]), spot[1])

    def test_a_bend_of_0(self):
        leans = Leans(leaned_sights([HALF] * 3, FIVE, Fraction(1, 4), Fraction(-3, 4), [(0, 1, 2)]), 0)
        self.assertEqual(leans.bend((0, 0)), (0, 1))
        sights = given_sights(leans, (0, 0))
        self.assertEqual(sights.linked(), [])
        self.assertEqual(stand(sights), ("fair", None))
        self.assertEqual(given_sights(leans, (0, 1)).linked(), [(0, 1)])

    def test_example(self):
        row = [(7, 32), (3, 32), (3, 32), (3, 32), (3, 32), (3, 32), (3, 32), (7, 32)]
        given = given_sights(Leans(Sights([HALF] * 3, seen=[((0, 1, 2), row)]), 0), (0, 0))
        self.assertEqual([given.singles, given.table((0, 1)).entries],
                         [(((5, 8), (3, 8)),) * 2, ((7, 16), (3, 16), (3, 16), (3, 16))])

    def test_refuses(self):
        turned = Leans(beside(three(Fraction(1, 4), Fraction(-9, 10)), Sights([HALF] * 2, seen=[((0, 1), FAR)])), 0)
        for spot in (None, (5, 0), (0, 2), (0,), (True, 0), "00"):
            with self.assertRaises(BadSpot):
                given_sights(turned, spot)
        for spot in ((3, 0), [4, 1]):
            with self.assertRaises(OtherPiece):
                given_sights(turned, spot)
        for spot in piece_spots(turned.tilts):
            with self.assertRaises(Turned) as caught:
                given_sights(turned, spot)
            self.assertEqual(caught.exception.x, (0, 0))

    def test_never_met(self):
        # Looks 0 and 1 are sure, so each of their answers is never met with the other one of the other look.
        world = World([(1, 3), (2, 3)], [[[1, 0], [1, 0], [(3, 4), (1, 4)]], [[0, 1], [0, 1], [(1, 4), (3, 4)]]])
        leans = Leans(world.sights_of([(0, 1, 2)]), 0)
        for spot, never in (((0, 0), (1, 1)), ((0, 1), (1, 0)), ((1, 0), (0, 1)), ((1, 1), (0, 0))):
            with self.assertRaises(NeverMet) as caught:
                given_sights(leans, spot)
            self.assertEqual(caught.exception.spot, never)
        self.assertEqual(given_sights(leans, (2, 0)).sizes, (2, 2))

    def test_turned_stands_before_never_met(self):
        # Looks 0 and 1, not seen together, have the told link 1 and bends 1 + b - 1 by their leans b.
        vectors = [[2, -2], [2, -2]] + FIVE[:3]
        lots = [(2, 3, 4), (0, 2), (1, 3)]
        turned = Leans(leaned_sights([HALF] * 5, vectors, Fraction(1, 4), Fraction(1, 7), lots), 0)
        self.assertEqual((turned.link((0, 0), (1, 1)), turned_spots(turned)), ((-1, 1), [(0, 1), (1, 1)]))
        with self.assertRaises(Turned) as caught:
            given_sights(turned, (0, 0))
        self.assertEqual(caught.exception.x, (0, 1))
        level = Leans(leaned_sights([HALF] * 5, vectors, Fraction(1, 4), 0, lots), 0)
        self.assertEqual(turned_spots(level), [])
        with self.assertRaises(NeverMet) as caught:
            given_sights(level, (0, 0))
        self.assertEqual(caught.exception.spot, (1, 1))


class OrderOfSplitsTest(unittest.TestCase):
    """Point 89."""

    def test_the_order_stays(self):
        many = 0
        for seed in range(20):
            world = random_world(9100 + seed, (2, 3, 3), 2, low=seed % 2)
            for x in spots(world.sizes):
                if bend(world, x)[0] == 0:
                    continue
                less = given_world(world, x)
                met = [y for y in spots(world.sizes) if less.single(y)[0] > 0]
                self.assertEqual(len(met), len(spots(world.sizes)))
                for y, z in itertools.permutations(met, 2):
                    self.assertEqual(fraction(split(less, y)) > fraction(split(less, z)),
                                     fraction(split(world, y)) > fraction(split(world, z)))
                    many += 1
        self.assertGreater(many, 1000)


class AcrossLinkTest(unittest.TestCase):

    def test_what_every_world_makes(self):
        many = 0
        for world, sights in pair_worlds():
            one, two = Leans(sights, 0), Leans(sights, 1)
            for x, y in itertools.product(piece_spots(one.tilts), piece_spots(two.tilts)):
                found = across_link(one, two, list(x), y)
                if world.chances[0] == (1, 2):
                    self.assertIsNone(found)
                    continue
                self.assertEqual(found, ratio(made_link(world, x, y)))
                self.assertEqual(across_link(two, one, y, x), found)
                self.assertTrue(as_it_looks(found))
                many += 1
            if world.chances[0] != (1, 2):
                base = across_link(one, two, one.tilts.base, two.tilts.base)
                self.assertIn(1 if base[0] > 0 else -1, cross_signs(frame_of(sights, 0), frame_of(sights, 1)))
        self.assertGreater(many, 100)

    def test_a_further_pair(self):
        words = []
        for world, sights in pair_worlds():
            if world.chances[0] == (1, 2):
                continue
            one, two = Leans(sights, 0), Leans(sights, 1)
            for factor in (Fraction(1), Fraction(1, 2), Fraction(-1, 10)):
                entries = []
                for a, b in rows((1, 4), sights.sizes):
                    told = fraction(across_link(one, two, (1, a), (4, b)))
                    entries.append(ratio((1 + factor * told) * single(sights, (1, a)) * single(sights, (4, b))))
                word = stand(sights.adding((1, 4), entries))[0]
                self.assertEqual(word, "fair" if factor == 1 else "none")
                words.append(word)
        self.assertEqual(set(words), {"fair", "none"})

    def test_a_balance_of_one_quarter(self):
        one = three(Fraction(1, 4), 0)
        sights = beside(one, one)
        leans = [Leans(sights, number) for number in range(2)]
        self.assertEqual(leans[0].balance(), (1, 4))
        for x, y in itertools.product(piece_spots(leans[0].tilts), piece_spots(leans[1].tilts)):
            self.assertIsNone(across_link(leans[0], leans[1], x, y))
        for order, sign in (([0, 1], 1), ([1, 0], -1)):
            first, second = [world_of(lean) for lean in leans]
            world = World(first.chances, [[first.sorts[sort][look] for look in range(3)]
                                          + [second.renamed(order).sorts[sort][look] for look in range(3, 6)]
                                          for sort in range(2)])
            self.assertTrue(world.fair and world.stands_behind(sights))
            self.assertEqual(made_link(world, (0, 0), (3, 0)), sign * Fraction(1, 4))

    def test_equal_balances_by_unlike_leans(self):
        sights = beside(three(Fraction(1, 8), Fraction(1, 4)), three(Fraction(1, 2), Fraction(-1, 2)))
        one, two = Leans(sights, 0), Leans(sights, 1)
        # 1 / balance - 4 is 1/2 in both.
        self.assertEqual(across_link(one, two, (0, 0), (3, 0)), (-1, 4))
        self.assertEqual(across_link(one, two, (0, 1), (3, 0)), (1, 4))

    def test_refuses(self):
        sights = beside(three(Fraction(1, 6), Fraction(1, 5)), three(Fraction(1, 6), Fraction(1, 4)))
        one, two = Leans(sights, 0), Leans(sights, 1)
        for spot in (None, (6, 0), (0, 2), (0,), (True, 0)):
            with self.assertRaises(BadSpot):
                across_link(one, two, spot, (0, 0))
            with self.assertRaises(BadSpot):
                across_link(one, two, (0, 0), spot)
            with self.assertRaises(OtherPiece):
                across_link(one, two, (3, 0), spot)
        for x, y in (((3, 0), (3, 0)), ((0, 0), (2, 1)), ([5, 1], [0, 0])):
            with self.assertRaises(OtherPiece):
                across_link(one, two, x, y)
        with self.assertRaises(Unlike):
            across_link(one, two, (0, 0), (3, 0))
        with self.assertRaises(NoThree):
            Leans(Sights([HALF] * 2, seen=[((0, 1), FAR)]), 0)


class ShownLotsTest(unittest.TestCase):

    def test_by_definition(self):
        found = []
        for _, sights, number in pieces_with_threes():
            leans = Leans(sights, number)
            looks = leans.looks
            wanted = [lot for many in range(2, len(looks) + 1) for lot in itertools.combinations(looks, many)
                      if not any(set(lot) <= set(seen) for seen in sights.lots)]
            self.assertEqual(shown_lots(leans), wanted)
            found += wanted
        self.assertGreater(len({len(lot) for lot in found}), 2)

    def test_a_piece_beside_others(self):
        entries = leaned_entries([HALF] * 6, [[1, -1]] * 6, Fraction(1, 6), Fraction(1, 5), (0, 2, 4))
        pair = leaned_entries([HALF] * 6, [[1, -1]] * 6, Fraction(1, 6), 0, (4, 5))
        sights = Sights([HALF] * 6, seen=[((0, 2, 4), entries), ((1, 3), FAR), ((4, 5), pair)])
        leans = Leans(sights, 0)
        self.assertEqual(shown_lots(leans), [(0, 5), (2, 5), (0, 2, 5), (0, 4, 5), (2, 4, 5), (0, 2, 4, 5)])
        found = shown_lots(leans)
        found.clear()
        self.assertEqual(len(shown_lots(leans)), 6)

    def test_nothing_is_left(self):
        self.assertEqual(shown_lots(Leans(three(Fraction(1, 4), 0), 0)), [])


if __name__ == "__main__":
    unittest.main()
