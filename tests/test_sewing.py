"""Points 123, 124, 130, 131 and 132 and the interface of hiddensorts/sewing.py."""

import itertools
import random
import unittest
from fractions import Fraction

from hiddensorts.agreeing import pairs_agree
from hiddensorts.errors import BadLook, BadTable, BadWalk
from hiddensorts.evens import EvenWeb
from hiddensorts.founding import agrees
from hiddensorts.matrices import first_rows, positive, turned
from hiddensorts.sewing import sewn, told_matrix
from hiddensorts.sights import Sights
from hiddensorts.stakes import carried, worth_by, worth_of_sorts
from hiddensorts.tilts import Tilts
from tests.evens import (RINGED, SIDED, below_web, even_world, even_worlds, holds, inverse_by_hand, made_matrix,
                         seen_by_hand, sewn_by_hand, sewn_web, span_web)
from tests.shares import fractions_of, product, ratios_of
from tests.test_frames import RING, RINGS, TREES, many_sights
from tests.test_stakes import random_stakes
from tests.tools import FAR, HALF, NEAR, NO_INTEGERS, NO_LISTS, as_it_looks, fraction, random_world, ratio


def some_walks(source, web, count):
    """Random odd walks, short and long ones, some of which turn back."""
    for _ in range(count):
        walk = (source.randrange(len(web.sights.sizes)),)
        for _ in range(source.choice((1, 3, 5, 7))):
            walk += (source.choice(near_looks(web, walk[-1])),)
        yield walk


def near_looks(web, look):
    return [other for pair in web.sights.pairs() if look in pair for other in pair if other != look]


class SewnTest(unittest.TestCase):

    def test_what_every_world_makes(self):
        source = random.Random(11000)
        for world, web in even_worlds(SIDED + RINGED, count=2):
            for walk in some_walks(source, web, 6):
                found = sewn(web, list(walk))
                self.assertEqual(found, made_matrix(world, walk[0], walk[-1]))
                self.assertEqual(found, sewn_by_hand(web.sights, walk))
                self.assertTrue(as_it_looks(found))

    def test_by_definition_in_webs_without_worlds(self):
        source = random.Random(11001)
        for web in (sewn_web(), sewn_web(ringed=True), below_web(2), below_web(3)):
            for walk in some_walks(source, web, 12):
                self.assertEqual(sewn(web, walk), sewn_by_hand(web.sights, walk))
                self.assertEqual(sewn(web, walk[::-1]), turned(sewn(web, walk)))
        # Where spans are unlike, the base of each pair counts.
        web = span_web()
        for walk in some_walks(source, web, 12):
            self.assertEqual(sewn(web, walk), sewn_by_hand(web.sights, walk))

    def test_turning_back(self):
        for _, web in even_worlds(SIDED + RINGED, sorts=(2, 3)):
            for look, other in web.sights.pairs():
                for u, v in ((look, other), (other, look)):
                    for walk in ((u, v), (u, v, u, v), (u, v, u, v, u, v)):
                        self.assertEqual(sewn(web, walk), web.seen_matrix(u, v))

    def test_two_walks_make_one(self):
        source, many = random.Random(11002), 0
        webs = [web for _, web in even_worlds(SIDED + RINGED, sorts=(2, 3))] + [sewn_web(), below_web(3)]
        for web in webs:
            walks = list(some_walks(source, web, 7))
            for one, two in itertools.permutations(walks, 2):
                y, x = one[-1], two[0]
                if tuple(sorted((x, y))) not in web.sights.pairs():
                    continue
                answers, others = web.base_of(x, y)
                middle = seen_by_hand(web.sights, x, y)
                back = inverse_by_hand([[middle[a][b] for b in others] for a in answers])
                left = [[fraction(row[b]) for b in others] for row in sewn(web, one)]
                right = [[fraction(entry) for entry in sewn(web, two)[a]] for a in answers]
                self.assertEqual(sewn(web, one + two), ratios_of(product(product(left, back), right)))
                many += 1
        self.assertGreater(many, 100)

    def test_examples(self):
        web = EvenWeb(Sights([HALF] * 3, seen=[((0, 1), FAR), ((1, 2), FAR)]))
        self.assertEqual([told_matrix(web, 0, 2), sewn(web, (0, 1, 2, 1))],
                         [None, (((5, 16), (3, 16)), ((3, 16), (5, 16)))])

    def test_refuses(self):
        web = EvenWeb(Sights([HALF] * 4, seen=[((0, 1), FAR), ((1, 2), FAR), ((2, 3), NEAR)]))
        for value in NO_LISTS + [[], (), [0], (0, 1, 2), [0, 1, 0, 1, 2], [9], [None] * 3]:
            with self.assertRaises(BadWalk) as caught:
                sewn(web, value)
            self.assertEqual(caught.exception.place, -1)
        for look in NO_INTEGERS + [4, -1]:
            for walk, place in (([look, 1], 0), ([0, look], 1), ([0, 1, look, 1], 2), ([0, 1, 2, look], 3)):
                with self.assertRaises(BadWalk) as caught:
                    sewn(web, walk)
                self.assertEqual(caught.exception.place, place)
        for walk, place in (((0, 0), 1), ((0, 2), 1), ((0, 1, 1, 2), 2), ((0, 1, 2, 0), 3), ((3, 0, 9, 9), 1)):
            with self.assertRaises(BadWalk) as caught:
                sewn(web, walk)
            self.assertEqual(caught.exception.place, place)


class ToldMatrixTest(unittest.TestCase):

    def test_told_exactly_by_odd_walks(self):
        for kinds, ringed in ((SIDED, False), (RINGED, True)):
            for world, web in even_worlds(kinds):
                many = len(world.sizes)
                for look, other in itertools.product(range(many), repeat=2):
                    found = told_matrix(web, look, other)
                    if not ringed and (look in web.sides[0]) == (other in web.sides[0]):
                        self.assertIsNone(found)
                    else:
                        self.assertEqual(found, made_matrix(world, look, other))

    def test_refuses(self):
        web = EvenWeb(Sights([HALF] * 3, seen=RING))
        for look in NO_INTEGERS + [3, -1]:
            with self.assertRaises(BadLook):
                told_matrix(web, look, 0)
            with self.assertRaises(BadLook):
                told_matrix(web, 0, look)

    def test_rank_2(self):
        # Point 132: as the told tables of stage 3.
        words = []
        for sights in many_sights(TREES, 8) + many_sights(RINGS, 6):
            if len(Tilts(sights, 0).looks) < len(sights.sizes):
                continue
            web, tilts = EvenWeb(sights), Tilts(sights, 0)
            self.assertEqual((web.rank, agrees(web)), (2, None))
            for look, other in itertools.product(range(len(sights.sizes)), repeat=2):
                found, table = told_matrix(web, look, other), tilts.told_table(look, other)
                words.append(found is None)
                self.assertEqual(found is None, table is None)
                if table is not None:
                    rows = [[table.at((a, b) if look <= other else (b, a)) for b in range(sights.sizes[other])]
                            for a in range(sights.sizes[look])]
                    self.assertEqual(found, tuple(tuple(row) for row in rows))
        self.assertEqual(set(words), {True, False})

    def test_rank_2_has_worlds_exactly_if_the_pairs_agree(self):
        for web in (below_web(2), span_web()):
            self.assertFalse(pairs_agree(web.sights))
            self.assertTrue(holds(web, agrees(web)))
        ring = [((0, 1), FAR), ((1, 2), FAR), ((2, 3), FAR), ((0, 3), NEAR)]
        self.assertFalse(pairs_agree(Sights([HALF] * 4, seen=ring)))
        self.assertEqual(agrees(EvenWeb(Sights([HALF] * 4, seen=ring)))[0], "sewn")

    def test_stakes(self):
        # Point 130.
        source, again = random.Random(11010), 0
        for world, web in even_worlds(SIDED + RINGED):
            if not world.fair:
                continue
            for x, z in itertools.product(range(len(world.sizes)), repeat=2):
                matrix = told_matrix(web, x, z)
                if matrix is not None:
                    stakes = random_stakes(source, world.sizes[z])
                    found = worth_of_sorts(world, (x,), carried(world, (z,), stakes))
                    self.assertEqual(found, worth_by(matrix, stakes))
                    again += x == z
        self.assertGreater(again, 10)


class AskedAgainTest(unittest.TestCase):
    """Point 131."""

    def test_from_one_look_to_the_next(self):
        for _, web in even_worlds(RINGED):
            for pair in web.sights.pairs():
                for x, y in (pair, pair[::-1]):
                    own = told_matrix(web, x, x)
                    answers = first_rows(own)
                    back = inverse_by_hand(fractions_of([[own[a][b] for b in answers] for a in answers]))
                    left = [[row[a] for a in answers] for row in seen_by_hand(web.sights, y, x)]
                    right = [seen_by_hand(web.sights, x, y)[a] for a in answers]
                    self.assertEqual(told_matrix(web, y, y), ratios_of(product(product(left, back), right)))

    def test_one_pair_more_within_a_side(self):
        words = []
        for number, (world, web) in enumerate(even_worlds([SIDED[1], SIDED[3], SIDED[4]], sorts=(2, 3))):
            x, y = (0, 2)
            for factor in (Fraction(1), Fraction(1, 2), Fraction(-1, 2), Fraction(-1, 9)):
                entries = []
                made = made_matrix(world, x, y)
                for a, b in itertools.product(range(world.sizes[x]), range(world.sizes[y])):
                    plain = fraction(world.single((x, a))) * fraction(world.single((y, b)))
                    entries.append(ratio(plain + factor * (fraction(made[a][b]) - plain)))
                try:
                    more = EvenWeb(web.sights.adding((x, y), entries))
                except BadTable:
                    continue
                words.append(self.check(more, (x, y)))
                self.assertEqual(words[-1], factor > 0)
        self.assertEqual(set(words), {True, False})

    def check(self, web, pair):
        """Whether the new web has worlds; by the walk from a look back to itself over the new pair."""
        self.assertTrue(web.ringed)
        walk = (pair[0], pair[1], 1, pair[0])
        found = sewn(web, walk)
        good = found == turned(found) and positive(found)
        self.assertEqual(turned(sewn(web, walk[::-1])), found)
        why = agrees(web)
        self.assertEqual(why is None, good)
        if why is None:
            many = range(len(web.sights.sizes))
            self.assertTrue(all(told_matrix(web, u, v) is not None for u, v in itertools.product(many, repeat=2)))
        else:
            self.assertTrue(holds(web, why))
        return good

    def test_a_table_that_is_not_symmetric(self):
        # A pair within a side whose matrix is in the spans, but turns the sorts round.
        found = 0
        for seed in range(40):
            world, web = even_world(11100 + seed, SIDED[1], 3)
            order = [1, 2, 0]
            weights = [min(fraction(p) for p in world.chances) / 2] * 3
            made = [[fraction(entry) for entry in row] for row in made_matrix(world, 0, 2)]
            for s, weight in enumerate(weights):
                for t, sign in ((order[s], 1), (s, -1)):
                    for a, b in itertools.product(range(world.sizes[0]), range(world.sizes[2])):
                        made[a][b] += sign * weight * fraction(world.sorts[s][0][a]) * fraction(world.sorts[t][2][b])
            try:
                more = EvenWeb(web.sights.adding((0, 2), [ratio(entry) for row in made for entry in row]))
            except BadTable:
                continue
            own = sewn(more, (0, 2, 1, 0))
            if own != turned(own):
                self.assertFalse(self.check(more, (0, 2)))
                self.assertTrue(holds(more, ("even", (0, 2, 1, 0))))
                found += 1
        self.assertGreater(found, 3)

    def test_any_world_of_three_looks(self):
        world = random_world(11190, (2, 2, 2), 2, low=1)
        web = EvenWeb(world.sights_of([(0, 1, 2)]))
        self.assertEqual(told_matrix(web, 1, 1), made_matrix(world, 1, 1))


if __name__ == "__main__":
    unittest.main()
