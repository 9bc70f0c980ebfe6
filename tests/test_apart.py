"""Points 19 and 23 and the interface of hiddensorts/apart.py."""

import itertools
import unittest

from hiddensorts.apart import independent, is_sure, telling, told_apart
from hiddensorts.errors import BadLot, BadSort, NotFair
from hiddensorts.giving import bend, given_world
from hiddensorts.making import side_by_side
from hiddensorts.worlds import World
from tests.tools import HALF, NO_INTEGERS, random_world, rows

LOOSE = World([(1, 2), (1, 2)], [[[(3, 2), (-1, 2)], HALF], [HALF, HALF]])
YES, NO = [1, 0], [0, 1]


def sure_by_hand(world, lot):
    """From the definition: each row that is met in some sort is met in that sort only."""
    for row in rows(lot, world.sizes):
        met = [sort for sort in range(len(world))
               if all(world.chance_at(sort, spot)[0] > 0 for spot in zip(lot, row))]
        if len(met) > 1:
            return False
    return True


def independent_by_hand(world, first, second, rest):
    """From the definition, row of rest by row, with worlds given its spots."""
    for row in rows(rest, world.sizes):
        going = world
        for spot in zip(rest, row):
            going = given_world(going, spot) if going is not None and going.single(spot)[0] > 0 else None
        if going is not None:
            both = going.made(sorted(first + second))
            if both != going.made(first) * going.made(second):
                return False
    return True


class TellingTest(unittest.TestCase):

    def test_telling(self):
        world = World([(1, 3)] * 3, [[HALF, YES, HALF], [HALF, NO, HALF], [HALF, YES, [(1, 3), (2, 3)]]])
        self.assertEqual(telling(world), (1, 2))
        self.assertEqual(telling(World.even((2, 2), 3)), ())
        self.assertEqual(telling(World([1], [[HALF]])), ())
        self.assertEqual(telling(LOOSE), (0,))
        self.assertEqual(telling(World([(1, 3)] * 3, [[HALF, HALF], [HALF, HALF], [HALF, YES]])), (1,))


class SureTest(unittest.TestCase):

    def test_by_the_definition(self):
        words = []
        kinds = [list(kind) for kind in itertools.product((YES, NO, HALF), repeat=2)]
        for many in (1, 2, 3):
            for sorts in itertools.product(kinds, repeat=many):
                world = World([(1, many)] * many, list(sorts))
                for lot in ((), (0,), (1,), (0, 1)):
                    words.append(is_sure(world, list(lot)))
                    self.assertIs(words[-1], sure_by_hand(world, lot))
        self.assertGreater(min(words.count(True), words.count(False)), 20)

    def test_the_empty_lot(self):
        self.assertIs(is_sure(World([1], [[HALF]]), ()), True)
        self.assertIs(is_sure(World([(1, 2), (1, 2)], [[YES], [NO]]), ()), False)
        self.assertIs(is_sure(World([(1, 2), (1, 2)], [[YES], [NO]]), [0]), True)

    def test_two_sorts_by_bends(self):
        for sorts in itertools.product(([YES, HALF], [NO, HALF], [HALF, YES], [HALF, NO], [NO, YES]), repeat=2):
            world = World([(1, 2), (1, 2)], list(sorts))
            for look in range(2):
                met = [(look, a) for a in range(2) if world.single((look, a))[0] > 0]
                self.assertEqual(is_sure(world, (look,)), all(bend(world, x) == (0, 1) for x in met))
            self.assertEqual(is_sure(world, (0, 1)), is_sure(world, (0,)) or is_sure(world, (1,)))

    def test_refuses(self):
        with self.assertRaises(NotFair):
            is_sure(LOOSE, None)
        world = World.even((2, 2), 2)
        for lot, place in ((None, -1), ([1, 0], 1), ([0, 0], 1), ([2], 0), ([False], 0)):
            with self.assertRaises(BadLot) as caught:
                is_sure(world, lot)
            self.assertEqual(caught.exception.place, place)


class ToldApartTest(unittest.TestCase):

    def test_looks(self):
        world = World([(1, 3)] * 3, [[YES, HALF, YES], [NO, HALF, YES], [HALF, YES, NO]])
        self.assertEqual([told_apart(world, 0, 1), told_apart(world, 2, 0), told_apart(world, 1, 2)],
                         [(0,), (2,), (2,)])
        self.assertEqual(told_apart(World([(1, 2)] * 2, [[YES, NO], [NO, YES]]), 1, 0), (0, 1))
        self.assertEqual([told_apart(world, sort, sort) for sort in range(3)], [(), (), ()])

    def test_refuses(self):
        with self.assertRaises(NotFair):
            told_apart(LOOSE, None, None)
        world = World.even((2,), 2)
        for sort in NO_INTEGERS + [2, -1]:
            for pair in ((sort, 0), (0, sort)):
                with self.assertRaises(BadSort):
                    told_apart(world, *pair)


class IndependentTest(unittest.TestCase):

    def lots(self):
        for places in itertools.product(range(4), repeat=4):
            lots = [[look for look in range(4) if places[look] == which] for which in range(3)]
            if lots[0] and lots[1]:
                yield lots

    def test_by_the_definition(self):
        worlds = [random_world(101, (2, 2, 2, 3), 2, alike=1), random_world(102, (2, 3, 2, 2), 3),
                  World([(1, 2), (1, 2)], [[HALF, YES, [(1, 3), (2, 3)], HALF], [HALF, NO, HALF, YES]]),
                  World([(1, 4)] * 4, [[YES, YES, HALF, YES], [YES, NO, YES, YES], [NO, YES, HALF, NO],
                                       [NO, NO, YES, NO]]),
                  World.even((2, 2, 2, 2), 1)]
        words = []
        for world in worlds:
            for first, second, rest in self.lots():
                words.append(independent(world, first, tuple(second), rest))
                self.assertIs(words[-1], independent_by_hand(world, first, second, rest))
                if len(world) == 2:
                    dumb = [not set(lot) & set(telling(world)) for lot in (first, second)]
                    self.assertEqual(words[-1], any(dumb) or is_sure(world, rest))
        self.assertGreater(min(words.count(True), words.count(False)), 50)

    def test_sides_are_not_independent_within(self):
        one = World([(1, 2), (1, 2)], [[YES, HALF], [HALF, HALF]])
        both = side_by_side(one, one)
        self.assertIs(independent(both, (0,), (2,), ()), False)
        self.assertIs(independent(both, (1,), (2,), ()), True)

    def test_refuses(self):
        with self.assertRaises(NotFair):
            independent(LOOSE, None, None, None)
        world = World.even((2, 2, 2), 2)
        good = [(0,), (1,), (2,)]
        for lot, place in ((None, -1), ([1, 0], 1), ([0, 0], 1), ([3], 0), ([False], 0)):
            for where in range(3):
                with self.assertRaises(BadLot) as caught:
                    independent(world, *[lot if where == k else good[k] for k in range(3)])
                self.assertEqual(caught.exception.place, place)
        for lots, place in ((([], [5], None), -1), (((0,), (), [5]), -1), (((0,), [5], None), 0),
                            (((0,), (1,), (1,)), -1), (((0, 1), (1, 2), ()), -1), (((0,), (1,), (0, 2)), -1),
                            (((0,), (0,), (1, 0)), 1)):
            with self.assertRaises(BadLot) as caught:
                independent(world, *lots)
            self.assertEqual(caught.exception.place, place, lots)
        self.assertIs(independent(world, *good), True)


if __name__ == "__main__":
    unittest.main()
