"""Points 18 to 22 and 25, 26, and the interface of hiddensorts/giving.py."""

import itertools
import unittest
from fractions import Fraction

from hiddensorts.errors import BadLot, BadSpot, NeverMet, NotFair, NotTwo
from hiddensorts.giving import balance, bend, cov, given_world, lean, row_bend, split
from hiddensorts.worlds import World
from tests.tools import HALF, NO_LISTS, fraction, random_world, ratio, rows, spots

LOOSE = [(3, 2), (-1, 2)]


class GivenWorldTest(unittest.TestCase):

    def test_example(self):
        w = World([(1, 3), (2, 3)], [[[(3, 4), (1, 4)], [1, 0]], [[(3, 8), (5, 8)], [(1, 2), (1, 2)]]])
        given = given_world(w, (0, 0))
        self.assertEqual([given.chances, bend(w, (0, 0)), balance(given), given_world(w, (1, 1)).chances],
                         [((1, 2), (1, 2)), (9, 8), (1, 4), ((1, 1),)])

    def test_chances_and_sorts(self):
        world = random_world(71, (2, 3), 4)
        for look, answer in spots(world.sizes):
            given = given_world(world, [look, answer])
            kept = [s for s in range(4) if world.sorts[s][look][answer] != (0, 1)]
            single = fraction(world.single((look, answer)))
            self.assertEqual(given.sorts, tuple(world.sorts[s] for s in kept))
            self.assertEqual([fraction(chance) for chance in given.chances],
                             [fraction(world.chances[s]) * fraction(world.sorts[s][look][answer]) / single
                              for s in kept])

    def test_chances_below_0_elsewhere_do_not_matter(self):
        world = World([(1, 2), (1, 2)], [[LOOSE, HALF], [HALF, HALF]])
        self.assertEqual(given_world(world, (0, 0)).chances, ((3, 4), (1, 4)))

    def test_refuses(self):
        world = World([(1, 2), (1, 2)], [[LOOSE, [1, 0, 0], HALF], [[(1, 2), (1, 2)], [1, 0, 0], [2, -1]]])
        for spot in NO_LISTS + [(3, 0), (0, 2), (0, True), (0,)]:
            with self.assertRaises(BadSpot):
                given_world(world, spot)
        for spot in ((1, 1), [1, 2], (0, 1)):
            with self.assertRaises(NeverMet) as caught:
                given_world(world, spot)
            self.assertEqual(caught.exception.spot, tuple(spot))
        with self.assertRaises(NotFair):
            given_world(world, (2, 1))

    def test_what_the_given_world_makes(self):
        world = random_world(72, (2, 3, 2), 3)
        for spot in spots(world.sizes):
            for asking in ((0,), (1,), (0, 1), (1, 1), (0, 2)):
                more = tuple(sorted(asking + (spot[0],)))
                self.assertEqual(given_world(world, spot).made(asking), world.made(more).given(spot))

    def test_two_spots_in_either_order(self):
        world = random_world(73, (2, 3, 2), 4)
        for x, y in itertools.product(spots(world.sizes), repeat=2):
            if x[0] < y[0] and world.made((x[0], y[0])).at((x[1], y[1])) != (0, 1):
                self.assertEqual(given_world(given_world(world, x), y), given_world(given_world(world, y), x))


class NumbersOfSpotsTest(unittest.TestCase):

    def test_definitions(self):
        for seed, low in ((74, 1), (75, -2), (76, 0)):
            world = random_world(seed, (2, 3), 2, low=low)
            p, q = [fraction(chance) for chance in world.chances]
            self.assertEqual(balance(world), ratio(p * q))
            for x in spots(world.sizes):
                first, second = [fraction(world.chance_at(sort, x)) for sort in (0, 1)]
                single = fraction(world.single(x))
                self.assertEqual(split(world, list(x)), ratio((first - second) / single))
                self.assertEqual(lean(world, list(x)), ratio((q - p) * (first - second) / single))
                self.assertEqual(bend(world, list(x)), ratio(first * second / single ** 2))

    def test_refuse(self):
        for call in (split, lean, bend):
            for many in (1, 3):
                with self.assertRaises(NotTwo):
                    call(World.even((2,), many), None)
            world = World([(1, 2), (1, 2)], [[HALF, LOOSE], [HALF, [(-1, 2), (3, 2)]]])
            for spot in NO_LISTS + [(2, 0), (0, 2), (0, True), (0,)]:
                with self.assertRaises(BadSpot):
                    call(world, spot)
            never = World([(1, 2), (1, 2)], [[HALF, LOOSE], [HALF, HALF]])
            with self.assertRaises(NeverMet) as caught:
                call(never, [1, 1])
            self.assertEqual(caught.exception.spot, (1, 1))
            below = World([(1, 2), (1, 2)], [[[2, -1]], [[3, -2]]])
            self.assertEqual(len(call(below, (0, 1))), 2)
        for many in (1, 3):
            with self.assertRaises(NotTwo):
                balance(World.even((2,), many))

    def test_links_and_bends_by_splits(self):
        world = random_world(77, (2, 3), 2, low=-1)
        for x, y in itertools.product(spots(world.sizes), repeat=2):
            link = fraction(cov(world, x, y)) / (fraction(world.single(x)) * fraction(world.single(y)))
            self.assertEqual(link, fraction(balance(world)) * fraction(split(world, x)) * fraction(split(world, y)))
            if x == y:
                self.assertEqual(fraction(bend(world, x)), 1 + fraction(lean(world, x)) - link)

    def test_fair_by_bends(self):
        words = []
        for seed in range(60):
            world = random_world(seed, (2, 2), 2, low=-1)
            words.append(world.fair)
            self.assertEqual(world.fair, all(bend(world, x)[0] >= 0 for x in spots(world.sizes)))
        self.assertGreater(min(words.count(True), words.count(False)), 5)

    def test_given_an_answer(self):
        world = random_world(78, (2, 3, 2), 2)
        for x in spots(world.sizes):
            factor = fraction(bend(world, x))
            verdict = fraction(world.chances[0]) * fraction(world.chance_at(0, x)) / fraction(world.single(x))
            self.assertEqual((verdict - Fraction(1, 2)) ** 2, Fraction(1, 4) - fraction(balance(world)) * factor)
            if factor > 0:
                given = given_world(world, x)
                self.assertEqual(fraction(balance(given)), factor * fraction(balance(world)))
                for y, z in itertools.product(spots(world.sizes), repeat=2):
                    self.assertEqual(fraction(cov(given, y, z)), factor * fraction(cov(world, y, z)))


class CovTest(unittest.TestCase):

    def test_any_number_of_sorts(self):
        for many in (1, 2, 4):
            world = random_world(79, (2, 3), many, low=-1)
            for y, z in itertools.product(spots(world.sizes), repeat=2):
                entry = sum(fraction(chance) * fraction(sort[y[0]][y[1]]) * fraction(sort[z[0]][z[1]])
                            for chance, sort in zip(world.chances, world.sorts))
                wanted = entry - fraction(world.single(y)) * fraction(world.single(z))
                self.assertEqual(cov(world, list(y), list(z)), ratio(wanted))

    def test_refuses(self):
        world = random_world(80, (2, 3), 3)
        for wrong in NO_LISTS + [(2, 0), (0, 2), (0, True), (0,)]:
            for pair in ((wrong, (0, 0)), ((0, 0), wrong)):
                with self.assertRaises(BadSpot):
                    cov(world, *pair)


class RowBendTest(unittest.TestCase):

    def test_by_the_definition(self):
        for seed, low in ((81, 1), (82, -1)):
            world = random_world(seed, (2, 3, 2), 2, low=low)
            for lot in ((), (1,), (0, 2), (0, 1, 2)):
                for row in rows(lot, world.sizes):
                    entry = fraction(world.made(lot).at(row)) if lot else Fraction(1)
                    wanted = Fraction(1)
                    for sort in world.sorts:
                        for look, answer in zip(lot, row):
                            wanted *= fraction(sort[look][answer])
                    if entry:
                        self.assertEqual(row_bend(world, list(lot), list(row)), ratio(wanted / entry ** 2))
        self.assertEqual(row_bend(random_world(83, (2,), 2), (), ()), (1, 1))

    def test_bends_on_the_way(self):
        world = random_world(84, (2, 3, 2), 2, low=1)
        for row in rows((0, 1, 2), world.sizes):
            ends = []
            for order in itertools.permutations(zip((0, 1, 2), row)):
                going, product = world, Fraction(1)
                for spot in order:
                    product *= fraction(bend(going, spot))
                    going = given_world(going, spot)
                ends.append(going)
                self.assertEqual(row_bend(world, (0, 1, 2), row), ratio(product))
            self.assertTrue(all(end == ends[0] for end in ends))

    def test_sums(self):
        world = random_world(85, (2, 3), 2)
        wanted = Fraction(1)
        for look in range(2):
            wanted *= sum(fraction(bend(world, (look, a))) * fraction(world.single((look, a))) ** 2
                          for a in range(world.sizes[look]))
            link = sum(fraction(cov(world, (look, a), (look, a))) / fraction(world.single((look, a)))
                       for a in range(world.sizes[look]))
            self.assertEqual(sum(fraction(bend(world, (look, a))) * fraction(world.single((look, a)))
                                 for a in range(world.sizes[look])), 1 - link)
        table = world.made((0, 1))
        found = sum(fraction(table.at(row)) ** 2 * fraction(row_bend(world, (0, 1), row))
                    for row in rows((0, 1), world.sizes) if table.at(row)[0] > 0)
        self.assertEqual(found, wanted)

    def test_refuses(self):
        for many in (1, 3):
            with self.assertRaises(NotTwo):
                row_bend(World.even((2,), many), None, None)
        world = World([(1, 2), (1, 2)], [[HALF, [1, 0], [1, 0]], [HALF, [0, 1], [1, 0]]])
        for lot, place in ((None, -1), ([1, 0], 1), ([0, 0], 1), ([3], 0), ([True], 0)):
            with self.assertRaises(BadLot) as caught:
                row_bend(world, lot, None)
            self.assertEqual(caught.exception.place, place)
        for row in NO_LISTS + [(), (0,), (0, 0, 0), (0, 2), (True, 0)]:
            with self.assertRaises(BadSpot):
                row_bend(world, (0, 1), row)
        with self.assertRaises(BadSpot):
            row_bend(world, (), (0,))
        for lot, row in (((2,), [1]), ([0, 2], (1, 1))):
            with self.assertRaises(NeverMet) as caught:
                row_bend(world, lot, row)
            self.assertEqual(caught.exception.spot, tuple(row))
        self.assertEqual(row_bend(world, (1,), (0,)), (0, 1))


if __name__ == "__main__":
    unittest.main()
