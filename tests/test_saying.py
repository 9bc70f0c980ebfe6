"""Points 111 and 112 and the interface of hiddensorts/saying.py."""

import itertools
import random
import unittest

from hiddensorts.apart import independent, is_sure, telling
from hiddensorts.errors import BadLot, NotFair
from hiddensorts.fullness import is_full
from hiddensorts.saying import says_all, sure_by, unlike_at
from hiddensorts.stakes import Stakes, knowing, worth_of_sorts
from hiddensorts.worlds import World
from tests.shares import chances_by_hand
from tests.test_stakes import random_stakes
from tests.tools import NO_LISTS, fraction, random_world

SIZES = (2, 3, 2, 2)
LOTS = [(0,), (1,), (2,), (3,), (0, 1), (1, 2), (2, 3), (0, 3)]


def worlds(count=36):
    """Fair worlds with many chances of 0, some looks in which some sorts are alike."""
    for seed in range(count):
        world = random_world(9900 + seed, SIZES, 1 + seed % 4, low=0, alike=seed % 3)
        yield world
        # Each sort once more, unlike the old one in look 3 alone.
        if len(world) < 3:
            chances = [(p[0], 2 * p[1]) for p in world.chances] * 2
            others = [sort[:3] + (((1, 3), (2, 3)),) for sort in world.sorts]
            yield World(chances, list(world.sorts) + others)
    # Sure looks: two of two answers, one of three.
    yield World([(1, 3)] * 3, [[[1, 0], [1, 0, 0], [(1, 2), (1, 2)], [1, 0]],
                               [[1, 0], [0, 1, 0], [(1, 3), (2, 3)], [0, 1]],
                               [[0, 1], [0, 0, 1], [(1, 2), (1, 2)], [(1, 2), (1, 2)]]])
    yield World([(1, 4), (3, 4)], [[[1, 0], [(1, 2), (1, 2), 0], [(1, 2), (1, 2)], [0, 1]],
                                   [[0, 1], [(1, 2), (1, 2), 0], [(1, 2), (1, 2)], [(1, 2), (1, 2)]]])


def pairs_of_lots():
    return [(lot, other) for lot, other in itertools.permutations(LOTS, 2) if not set(lot) & set(other)]


def says_by_hand(world, lot, other):
    """Whether, given each met row of the lot, all sorts in which it is met have the same chances of other."""
    columns = list(zip(*chances_by_hand(world, other)))
    for row in chances_by_hand(world, lot):
        if len({columns[sort] for sort, chance in enumerate(row) if chance > 0}) > 1:
            return False
    return True


class SaysAllTest(unittest.TestCase):

    def test_by_definition(self):
        words = []
        for world in worlds():
            for lot, other in pairs_of_lots():
                found = says_all(world, list(lot), other)
                self.assertIs(found, says_by_hand(world, lot, other))
                if len(world) == 2:
                    dumb = not set(other) & set(telling(world))
                    self.assertEqual(found, dumb or is_sure(world, lot))
                words.append(found)
        self.assertGreater(min(words.count(True), words.count(False)), 50)

    def test_as_a_full_lot_sees_it(self):
        words = []
        for world in worlds():
            for lot, other in pairs_of_lots():
                for third in LOTS:
                    if not set(third) & set(lot + other) and is_full(world, third):
                        words.append(says_all(world, lot, other))
                        self.assertEqual(words[-1], independent(world, other, third, lot))
        self.assertGreater(min(words.count(True), words.count(False)), 20)

    def test_one_sort(self):
        self.assertIs(says_all(World.even((2, 3), 1), (0,), (1,)), True)


class SureByTest(unittest.TestCase):

    def test_by_definition(self):
        # Independent of itself, given a row: each chance is 0 or 1 among the sorts met, by the sum of its squares.
        words = []
        for world in worlds():
            for lot, third in pairs_of_lots():
                found = sure_by(world, lot, list(third))
                self.assertIs(found, self.by_hand(world, lot, third))
                words.append(found)
        self.assertGreater(min(words.count(True), words.count(False)), 50)

    def by_hand(self, world, lot, third):
        rows = chances_by_hand(world, third)
        for row in chances_by_hand(world, lot):
            shares = [chance * fraction(p) for chance, p in zip(row, world.chances)]
            for one, two in itertools.product(rows, repeat=2):
                both = sum(s * a * b for s, a, b in zip(shares, one, two))
                alone = [sum(s * a for s, a in zip(shares, far)) for far in (one, two)]
                if both * sum(shares) != alone[0] * alone[1]:
                    return False
        return True

    def test_sure_exactly_as_a_stand_in_shows_it(self):
        words = []
        for world in worlds():
            for lot, third in pairs_of_lots():
                if unlike_at(world, third):
                    words.append(sure_by(world, lot, third))
                    self.assertEqual(words[-1], is_sure(world, lot))
        self.assertGreater(min(words.count(True), words.count(False)), 10)

    def test_sure_exactly_if_it_brings_what_knowing_brings(self):
        source, words = random.Random(9990), []
        for world in worlds():
            many = len(world)
            naming = Stakes([[1 if s == act else 0 for s in range(many)] for act in range(many)])
            for lot in LOTS:
                sure = is_sure(world, lot)
                self.assertEqual(worth_of_sorts(world, lot, naming) == knowing(world, naming), sure)
                for _ in range(3):
                    stakes = random_stakes(source, many)
                    if sure:
                        self.assertEqual(worth_of_sorts(world, lot, stakes), knowing(world, stakes))
                words.append(sure)
        self.assertGreater(min(words.count(True), words.count(False)), 10)


class UnlikeTest(unittest.TestCase):

    def test_by_definition(self):
        words = []
        loose = [random_world(9980 + seed, SIZES, 3, low=-1, alike=2) for seed in range(4)]
        for world in list(worlds()) + loose:
            for lot in LOTS + [(0, 1, 2, 3)]:
                columns = list(zip(*chances_by_hand(world, lot)))
                words.append(unlike_at(world, list(lot)))
                self.assertIs(words[-1], len(set(columns)) == len(columns))
        self.assertGreater(min(words.count(True), words.count(False)), 50)


class RefusesTest(unittest.TestCase):

    WRONG = [(value, -1) for value in NO_LISTS] + [([4], 0), ([0, 4], 1), ([1, 0], 1), ([0, 0], 1), ([True], 0),
                                                   ((), -1), ([], -1)]

    def test_not_fair_comes_first(self):
        loose = random_world(9995, (2, 2), 2, low=-2)
        while loose.fair:
            loose = random_world(random.randrange(10 ** 6), (2, 2), 2, low=-2)
        for call in (says_all, sure_by):
            for lot, other in ((None, None), ((0,), (1,)), ((0,), (0,)), ((9,), ())):
                with self.assertRaises(NotFair):
                    call(loose, lot, other)
        self.assertIs(unlike_at(loose, (0, 1)), True)

    def test_lots(self):
        world = random_world(9996, SIZES, 2)
        for lot, place in self.WRONG:
            for call in (says_all, sure_by):
                for pair in ((lot, None), (lot, (3,)), ((3,), lot)):
                    with self.assertRaises(BadLot) as caught:
                        call(world, *pair)
                    self.assertEqual(caught.exception.place, place)
            with self.assertRaises(BadLot) as caught:
                unlike_at(world, lot)
            self.assertEqual(caught.exception.place, place)
        for call in (says_all, sure_by):
            for lot, other in (((0,), (0,)), ((0, 1), (1, 2))):
                with self.assertRaises(BadLot) as caught:
                    call(world, lot, other)
                self.assertEqual(caught.exception.place, -1)


if __name__ == "__main__":
    unittest.main()
