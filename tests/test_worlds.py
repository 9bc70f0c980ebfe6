"""Points 16 to 18 and the interface of hiddensorts/worlds.py."""

import itertools
import unittest
from fractions import Fraction

from hiddensorts.errors import (BadChances, BadLot, BadSize, BadSort, BadSpot, BadTable, BadWorld, NeverMet)
from hiddensorts.sights import Sights
from hiddensorts.worlds import World
from tests.tools import (FAR, HALF, NO_INTEGERS, NO_LISTS, NO_NUMBERS, QUARTERS, as_it_looks, fraction, made_by_hand,
                         random_world, ratio, spots)

OFTEN, SELDOM = [(3, 4), (1, 4)], [(1, 4), (3, 4)]
LOOSE = [(3, 2), (-1, 2)]


def looks_of(world):
    return [world.made((look,)).entries for look in range(len(world.sizes))]


class MakingWorldsTest(unittest.TestCase):

    def test_example(self):
        w = World([(1, 2), (1, 2)], [[OFTEN, OFTEN], [SELDOM, SELDOM]])
        v = w.renamed([1, 0])
        self.assertEqual([w.made((0, 1)).entries, w.sights_of([(0, 1)]).link((0, 0), (1, 0)), v == w, v.same_as(w)],
                         [((5, 16), (3, 16), (3, 16), (5, 16)), (1, 4), False, True])

    def test_attributes(self):
        chances, sorts = [[2, 4], (1, 2)], [[[(2, 4), [1, 2]], (0, 1, 0)], ([1, 0], [(1, 3)] * 3)]
        world = World(chances, sorts)
        self.assertEqual(world.chances, ((1, 2), (1, 2)))
        self.assertEqual(world.sorts[0], (((1, 2), (1, 2)), ((0, 1), (1, 1), (0, 1))))
        self.assertEqual(world.sizes, (2, 3))
        self.assertTrue(as_it_looks((world.chances, world.sorts, world.sizes)))
        self.assertEqual(chances, [[2, 4], (1, 2)])
        before = World(world.chances, world.sorts)
        chances[0][0] = 1
        sorts[0][0][0] = 1
        sorts[1][0].append(1)
        sorts.clear()
        self.assertEqual(world, before)

    def test_wrong_chances(self):
        wrong = NO_LISTS + [[], (), [0, 1], [(1, 2)], [(3, 2), (-1, 2)], [(1, 2), (1, 3)], [2]]
        for chances in wrong + [[(1, 2), number] for number in NO_NUMBERS]:
            with self.assertRaises(BadChances):
                World(chances, None)

    def assert_world(self, which, look, sorts, chances=((1, 2), (1, 2))):
        with self.assertRaises(BadWorld) as caught:
            World(chances, sorts)
        self.assertEqual((caught.exception.which, caught.exception.look), (which, look), sorts)

    def test_wrong_lists_of_sorts(self):
        for sorts in NO_LISTS + [[], [[HALF]], [[HALF]] * 3]:
            self.assert_world(-1, -1, sorts)

    def test_wrong_sorts(self):
        for sort in NO_LISTS + [[], ()]:
            self.assert_world(0, -1, [sort, None])
            self.assert_world(1, -1, [[HALF], sort])
        self.assert_world(1, -1, [[HALF], [HALF, HALF]])
        self.assert_world(1, -1, [[HALF, HALF], [HALF]])
        self.assert_world(1, -1, [[HALF], [None, None]])

    def test_wrong_looks(self):
        wrong = NO_LISTS + [[], [1], [(1, 2), (1, 3)], [(1, 2), (1, 2), (1, 2)]]
        for entries in wrong + [[(1, 2), number] for number in NO_NUMBERS]:
            self.assert_world(0, 1, [[HALF, entries, None], None])
            self.assert_world(1, 0, [[HALF, HALF], [entries, None]])
        self.assert_world(1, 1, [[HALF, HALF], [HALF, [(1, 3)] * 3]])
        self.assert_world(1, 1, [[HALF, [(1, 3)] * 3], [HALF, HALF]])
        self.assert_world(0, 0, [[[1], HALF], []])

    def test_one_sort_one_look(self):
        world = World([1], [[LOOSE]])
        self.assertEqual((world.chances, world.sizes, len(world), world.fair), (((1, 1),), (2,), 1, False))
        self.assertEqual(world.made((0, 0)).entries, ((9, 4), (-3, 4), (-3, 4), (1, 4)))

    def test_even(self):
        world = World.even([2, 3], 4)
        self.assertEqual(world.chances, ((1, 4),) * 4)
        self.assertEqual(world.sorts, ((((1, 2),) * 2, ((1, 3),) * 3),) * 4)
        self.assertEqual(World.even((2,), 1), World([1], [[HALF]]))
        self.assertIsInstance(vars(World)["even"], classmethod)
        for sizes in NO_LISTS + [[], [1], [7], [2] * 9]:
            with self.assertRaises(BadSize):
                World.even(sizes, None)
        for many in NO_INTEGERS + [0, -1]:
            with self.assertRaises(BadSort):
                World.even([2], many)

    def test_fair(self):
        self.assertIs(World([1], [[[1, 0], HALF]]).fair, True)
        self.assertIs(World([(1, 2), (1, 2)], [[HALF, HALF], [HALF, LOOSE]]).fair, False)

    def test_length_and_equal(self):
        world = random_world(41, (2, 3), 3)
        self.assertEqual(len(world), 3)
        self.assertTrue(world == World(list(world.chances), [list(sort) for sort in world.sorts]))
        self.assertFalse(world != World(world.chances, world.sorts))
        for other in (None, 3, world.sorts, world.without(0), World([(1, 7), (2, 7), (4, 7)], world.sorts), World.even((2, 3), 3), random_world(42, (2, 3), 3)):
            self.assertFalse(world == other)


class AskingWorldsTest(unittest.TestCase):

    def test_chance_at(self):
        world = random_world(43, (2, 3), 3, low=-1)
        for sort in range(3):
            for look, answer in spots(world.sizes):
                self.assertEqual(world.chance_at(sort, [look, answer]), world.sorts[sort][look][answer])
        for sort in NO_INTEGERS + [3, -1]:
            with self.assertRaises(BadSort):
                world.chance_at(sort, None)
        for spot in NO_LISTS + [(2, 0), (0, 2), (0, True), (0,)]:
            with self.assertRaises(BadSpot):
                world.chance_at(0, spot)
            with self.assertRaises(BadSpot):
                world.single(spot)

    def test_made(self):
        for seed, low in ((44, 0), (45, -2)):
            world = random_world(seed, (2, 3, 2), 3, low=low)
            for asking in ((0,), (1,), (0, 1), (0, 0), (1, 1, 1), (0, 1, 2), (0, 0, 1, 2, 2)):
                table = world.made(list(asking))
                self.assertEqual([fraction(entry) for entry in table.entries], made_by_hand(world, asking))
                self.assertEqual((table.asking, table.sizes), (asking, world.sizes))
            for look, answer in spots(world.sizes):
                self.assertEqual(world.single((look, answer)), world.made((look,)).at((answer,)))

    def test_made_refuses(self):
        world = random_world(46, (2, 2, 2), 2)
        for asking, place in ((None, -1), ("0", -1), ([1, 0], 1), ([0, 0, 3], 2), ([False], 0), ([], -1), ((), -1)):
            with self.assertRaises(BadLot) as caught:
                world.made(asking)
            self.assertEqual(caught.exception.place, place)

    def test_renamed_and_same(self):
        world = random_world(47, (2, 3), 3)
        for order in itertools.permutations(range(3)):
            other = world.renamed(list(order))
            self.assertEqual(other.chances, tuple(world.chances[sort] for sort in order))
            self.assertEqual(other.sorts, tuple(world.sorts[sort] for sort in order))
            self.assertIs(world.same_as(other), True)
            self.assertIs(other.same_as(world), True)
            self.assertEqual(other.made((0, 1)), world.made((0, 1)))
        for order in NO_LISTS + [[], [0, 1], [0, 1, 1], [0, 1, 3], [0, 1, 2, 0], [0, 1, -1], [False, 1, 2], ["a", 1, 2],
                                 [0, 1, 2, 3], [0, 1, None]]:
            with self.assertRaises(BadSort):
                world.renamed(order)

    def test_not_the_same(self):
        world = World([(1, 3), (1, 3), (1, 3)], [[OFTEN], [OFTEN], [SELDOM]])
        for other in (World([(1, 3), (1, 3), (1, 3)], [[OFTEN], [SELDOM], [SELDOM]]), World([1], [[OFTEN]]),
                      World([(1, 6), (1, 2), (1, 3)], [[OFTEN], [OFTEN], [SELDOM]]),
                      World([(2, 3), (1, 3)], [[OFTEN], [SELDOM]]),
                      World([(1, 3), (1, 3), (1, 3)], [[OFTEN, HALF], [OFTEN, HALF], [SELDOM, HALF]])):
            self.assertIs(world.same_as(other), False)
        self.assertIs(world.same_as(World([(1, 3)] * 3, [[OFTEN], [SELDOM], [OFTEN]])), True)

    def test_stands_behind(self):
        world = random_world(48, (2, 3, 2), 2, low=1)
        sights = world.sights_of([(0, 1), (1, 2)])
        self.assertIs(world.stands_behind(sights), True)
        self.assertIs(world.renamed([1, 0]).stands_behind(sights), True)
        self.assertIs(world.without(2).stands_behind(sights), False)
        self.assertIs(World.even((2, 3, 2), 2).stands_behind(sights), False)
        product = World([1], [looks_of(world)])
        self.assertIs(product.stands_behind(sights), False)
        self.assertIs(product.stands_behind(Sights(sights.singles)), True)
        self.assertIs(product.stands_behind(world.without(2).sights_of([])), False)

    def test_a_larger_seen_lot_counts_whole(self):
        pairs_alike = World([(1, 2), (1, 2)], [[HALF] * 3] * 2)
        odd = Sights([HALF] * 3, seen=[((0, 1, 2), [(1, 4), 0, 0, (1, 4), 0, (1, 4), (1, 4), 0])])
        self.assertEqual(odd.table((0, 1)).entries, tuple(QUARTERS))
        self.assertIs(pairs_alike.stands_behind(odd), False)

    def test_sights_of(self):
        world = random_world(49, (2, 3, 2), 3)
        lots = [[1, 2], (0, 1, 2), (0, 1), (1, 2)]
        sights = world.sights_of(lots)
        self.assertEqual(sights.lots, ((1, 2), (0, 1, 2), (0, 1), (1, 2)))
        self.assertEqual(sights.singles, tuple(looks_of(world)))
        for lot in sights.lots:
            self.assertEqual(sights.table(lot), world.made(lot))
        self.assertEqual(lots, [[1, 2], (0, 1, 2), (0, 1), (1, 2)])
        self.assertEqual(world.sights_of(()).lots, ())

    def test_sights_of_refuses_singles_first(self):
        for world, spot in ((World([(1, 2), (1, 2)], [[HALF, [1, 0]], [HALF, [1, 0]]]), (1, 1)),
                            (World([(1, 2), (1, 2)], [[HALF, LOOSE], [[1, 0], HALF]]), (1, 1)),
                            (World([1], [[HALF, LOOSE, [0, 1]]]), (1, 1)),
                            (World([1], [[[-1, 2], HALF]]), (0, 0))):
            for lots in (None, [(0, 1)]):
                with self.assertRaises(NeverMet) as caught:
                    world.sights_of(lots)
                self.assertEqual(caught.exception.spot, spot)

    def test_sights_of_refuses_lot_after_lot(self):
        world = World([(1, 2), (1, 2)], [[LOOSE, HALF, LOOSE], [[(-1, 2), (3, 2)], HALF, [(-1, 2), (3, 2)]]])
        for lots in NO_LISTS:
            with self.assertRaises(BadLot) as caught:
                world.sights_of(lots)
            self.assertEqual(caught.exception.place, -1)
        for lots, place in (([(0, 1), (1, 0)], 1), ([(0, 1), [0]], -1), ([()], -1), ([None, (0, 2)], -1),
                            ([(0, 3), (0, 2)], 1)):
            with self.assertRaises(BadLot) as caught:
                world.sights_of(lots)
            self.assertEqual(caught.exception.place, place)
        with self.assertRaises(BadTable) as caught:
            world.sights_of([(0, 1), (0, 2), None])
        self.assertEqual(world.made((0, 2)).entries, ((5, 4), (-3, 4), (-3, 4), (5, 4)))
        self.assertEqual(caught.exception.place, 1)

    def test_a_loose_world_may_make_fair_sights(self):
        world = World([(1, 2), (1, 2)], [[LOOSE, HALF], [[0, 1], HALF]])
        self.assertEqual(world.sights_of([(0, 1)]).table((0, 1)).entries, ((3, 8), (3, 8), (1, 8), (1, 8)))


class ChangedWorldsTest(unittest.TestCase):

    def test_without(self):
        world = random_world(51, (2, 3, 4), 2)
        less = world.without(1)
        self.assertEqual((less.chances, less.sizes), (world.chances, (2, 4)))
        self.assertEqual(less.sorts, tuple((sort[0], sort[2]) for sort in world.sorts))
        for look in NO_INTEGERS + [3, -1]:
            with self.assertRaises(BadLot) as caught:
                world.without(look)
            self.assertEqual(caught.exception.place, 0)
        with self.assertRaises(BadLot) as caught:
            World([1], [[HALF]]).without(0)
        self.assertEqual(caught.exception.place, 0)

    def test_mixed(self):
        world = random_world(52, (2, 4, 3), 2, low=-1)
        parts = [[3, 1], (0,), [2]]
        mixed = world.mixed(1, parts)
        self.assertEqual((mixed.chances, mixed.sizes), (world.chances, (2, 3, 3)))
        for sort, old in zip(mixed.sorts, world.sorts):
            self.assertEqual((sort[0], sort[2]), (old[0], old[2]))
            self.assertEqual(sort[1], (ratio(fraction(old[1][1]) + fraction(old[1][3])), old[1][0], old[1][2]))
        self.assertEqual(parts, [[3, 1], (0,), [2]])
        self.assertEqual(world.mixed(0, [[1], [0]]).sorts[0][0], (world.sorts[0][0][1], world.sorts[0][0][0]))

    def test_mixed_refuses(self):
        world = random_world(53, (2, 3), 2)
        for look in NO_INTEGERS + [2, -1]:
            with self.assertRaises(BadLot) as caught:
                world.mixed(look, None)
            self.assertEqual(caught.exception.place, 0)
        for parts in NO_LISTS + [[], [[0, 1, 2]], [[0, 1], [2], []], [[0], [1]], [[0, 1], [1, 2]], [[0, 1], [3]],
                                 [[0, 1], 2], [[0, 1], [True, 2]], [[0, 1], ["2"]], [[0, 1], [2, 2]], [[0, 1], [-1]],
                                 [[0, 1], "2"], [[0, True], [2]], [[0, 1], [None]]]:
            with self.assertRaises(BadSize):
                world.mixed(1, parts)

    def test_side_by_side(self):
        world = random_world(54, (2, 3), 2)
        other = World(world.chances, random_world(55, (4,), 2).sorts)
        both = world + other
        self.assertEqual((both.chances, both.sizes), (world.chances, (2, 3, 4)))
        self.assertEqual(both.sorts, tuple(a + b for a, b in zip(world.sorts, other.sorts)))
        self.assertEqual(both.without(2), world)
        for wrong in (World([(1, 5), (4, 5)], other.sorts), World.even((2,), 3), World([1], [[HALF]])):
            with self.assertRaises(BadChances):
                world + wrong
        with self.assertRaises(BadChances):
            World([(1, 3), (2, 3)], [[HALF]] * 2) + World([(2, 3), (1, 3)], [[HALF]] * 2)


class MostTest(unittest.TestCase):

    def test_the_most(self):
        world = random_world(56, (4,) * 8, 5, low=1)
        table = world.made((0, 2, 4, 6, 7))
        self.assertEqual(len(table), 1024)
        self.assertEqual(table.left_to((4, 7)), world.made((4, 7)))
        again = random_world(57, (2,) * 8, 5).made((0, 0, 1, 2, 3, 4, 5, 6, 7, 7))
        self.assertEqual(len(again), 1024)
        self.assertEqual(sum(fraction(entry) for entry in again), Fraction(1))
        six = World.even((6,) * 8, 5)
        self.assertEqual(six.made((0, 7)).entries, ((1, 36),) * 36)
        self.assertEqual(Sights([HALF, HALF], seen=[((0, 1), FAR)]).linked(), [(0, 1)])


if __name__ == "__main__":
    unittest.main()
