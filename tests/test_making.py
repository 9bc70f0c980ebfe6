"""Points 18 and 20 and the interface of hiddensorts/making.py."""

import unittest

from hiddensorts.errors import BadChances, BadLot, BadNumber, NeverMet, NotTwo
from hiddensorts.giving import split
from hiddensorts.making import made_by_parts, side_by_side, step_numbers, zeros
from hiddensorts.parts import part
from hiddensorts.worlds import World
from tests.tools import HALF, NO_INTEGERS, fraction, random_world, ratio, rows


class SideBySideTest(unittest.TestCase):

    def test_in_this_order(self):
        one = random_world(61, (2, 3), 3)
        two, three = [World(one.chances, random_world(seed, (2,), 3).sorts) for seed in (62, 63)]
        self.assertEqual(side_by_side(one, two, three), one + two + three)
        self.assertEqual(side_by_side(three, one).sizes, (2, 2, 3))
        self.assertEqual(side_by_side(one), one)

    def test_refuses(self):
        one = random_world(64, (2,), 2)
        with self.assertRaises(BadChances):
            side_by_side()
        with self.assertRaises(BadChances):
            side_by_side(one, one, World.even((2,), 3))
        with self.assertRaises(BadChances):
            side_by_side(World.even((2,), 3), one)


class ZerosTest(unittest.TestCase):

    def test_ascending(self):
        world = World([(1, 2), (1, 2)], [[[1, 0], [(3, 2), (-1, 2), 0]], [HALF, [0, 0, 1]]])
        found = zeros(world)
        self.assertEqual(found, [(0, (0, 1)), (0, (1, 2)), (1, (1, 0)), (1, (1, 1))])
        found.clear()
        self.assertEqual(len(zeros(world)), 4)
        self.assertEqual(zeros(World.even((2, 3), 2)), [])


class StepNumbersTest(unittest.TestCase):

    def test_by_the_rule(self):
        world = random_world(65, (2, 2), 2)
        p, q = [fraction(chance) for chance in world.chances]
        steps = [1, 0]
        while len(steps) < 12:
            steps.append((q - p) * steps[-1] + p * q * steps[-2])
        self.assertEqual(step_numbers(world, 11), tuple(ratio(step) for step in steps))
        self.assertEqual([step_numbers(world, 0), step_numbers(world, 1)], [((1, 1),), ((1, 1), (0, 1))])

    def test_refuses(self):
        for many in (1, 3):
            with self.assertRaises(NotTwo):
                step_numbers(World.even((2,), many), None)
        for many in NO_INTEGERS + [-1]:
            with self.assertRaises(BadNumber):
                step_numbers(World.even((2,), 2), many)


class MadeByPartsTest(unittest.TestCase):

    def test_the_same_as_made(self):
        for seed, low in ((66, 1), (67, -1), (68, 0)):
            world = random_world(seed, (2, 3, 2), 2, low=low)
            for asking in ([0], (1, 1), (0, 1), (0, 0, 0), (0, 1, 2), (0, 0, 1, 1, 2)):
                self.assertEqual(made_by_parts(world, asking), world.made(asking))

    def test_parts_are_step_numbers_times_splits(self):
        world = random_world(69, (2, 3), 2, low=1)
        for asking in ((0,), (0, 1), (1, 1), (0, 0, 1), (0, 0, 1, 1)):
            table = world.made(asking)
            for row in rows(asking, world.sizes):
                wanted = fraction(step_numbers(world, len(row))[-1])
                for spot in zip(asking, row):
                    wanted *= fraction(split(world, spot))
                self.assertEqual(part(table, row), ratio(wanted))

    def test_a_single_below_0_serves(self):
        world = World([(1, 2), (1, 2)], [[[2, -1], HALF], [[3, -2], [1, 0]]])
        self.assertEqual(made_by_parts(world, (0, 0, 1)), world.made((0, 0, 1)))

    def test_refuses(self):
        for many in (1, 3):
            with self.assertRaises(NotTwo):
                made_by_parts(World.even((2,), many), None)
        world = World([(1, 2), (1, 2)], [[HALF, [1, 0], [2, -1]], [HALF, [1, 0], [0, 1]]])
        for asking, place in ((None, -1), ([1, 0], 1), ([3], 0), ([], -1), ((), -1)):
            with self.assertRaises(BadLot) as caught:
                made_by_parts(world, asking)
            self.assertEqual(caught.exception.place, place)
        for asking, spot in (((1,), (1, 1)), ((0, 2, 2), (2, 1)), ((0, 1, 2), (1, 1))):
            with self.assertRaises(NeverMet) as caught:
                made_by_parts(world, asking)
            self.assertEqual(caught.exception.spot, spot)
        self.assertEqual(made_by_parts(world, (0, 0)), world.made((0, 0)))

    def test_the_most(self):
        world = random_world(70, (2,) * 8, 2, low=1)
        asking = (0, 0, 1, 2, 3, 4, 5, 6, 7, 7)
        self.assertEqual(made_by_parts(world, asking), world.made(asking))


if __name__ == "__main__":
    unittest.main()
