"""Facts that hold across modules: points 26, 34 and 10."""

import itertools
import unittest

from hiddensorts.apart import telling
from hiddensorts.giving import balance, bend, cov, split
from hiddensorts.making import side_by_side
from hiddensorts.texts import sights_from, sights_text
from hiddensorts.walks import along
from hiddensorts.webs import Web
from hiddensorts.worlds import World
from tests.tools import HALF, fraction, random_world, ratio, spots


def lots(many):
    return [lot for size in range(1, many + 1) for lot in itertools.combinations(range(many), size)]


def odd_walks(web, look, steps):
    """All walks of so many steps from a look."""
    walks = [(look,)]
    for _ in range(steps):
        walks = [walk + (near,) for walk in walks for near in web.steps(walk[-1])]
    return walks


class SideBySideTest(unittest.TestCase):

    def test_a_product_exactly_if_one_lot_is_dumb(self):
        first = random_world(171, (2, 3), 2, alike=1)
        second = World(first.chances, random_world(172, (2, 2, 2), 2, alike=1).sorts)
        both = side_by_side(first, second)
        tells = telling(both)
        self.assertEqual(tells, (1, 3, 4))
        words = []
        for one, two in itertools.product(lots(2), [tuple(look + 2 for look in lot) for lot in lots(3)]):
            words.append(both.made(one + two) == both.made(one) * both.made(two))
            self.assertEqual(words[-1], not set(one) & set(tells) or not set(two) & set(tells))
        self.assertGreater(min(words.count(True), words.count(False)), 5)

    def test_any_number_of_sorts_side_by_side(self):
        first = random_world(173, (2, 3), 3)
        second = World(first.chances, random_world(174, (2,), 3).sorts)
        both = side_by_side(first, second, first)
        self.assertEqual(both.made((0, 1)).entries, first.made((0, 1)).entries)
        self.assertEqual(both.made((2,)).entries, second.made((0,)).entries)
        self.assertEqual(both.made((0, 3)).entries, first.made((0, 0)).entries)


class ThrownTogetherAndLeftOutTest(unittest.TestCase):

    def test_splits_and_bends_of_the_others_stay(self):
        world = random_world(175, (2, 4, 3), 2, low=1)
        mixed = world.mixed(1, [[0, 3], [2, 1]])
        for x in spots(world.sizes):
            if x[0] != 1:
                self.assertEqual((split(mixed, x), bend(mixed, x)), (split(world, x), bend(world, x)))
        self.assertEqual(balance(mixed), balance(world))
        less = world.without(0)
        for x in spots(less.sizes):
            old = (x[0] + 1, x[1])
            self.assertEqual((split(less, x), bend(less, x)), (split(world, old), bend(world, old)))

    def test_tables_are_thrown_together_and_left_out(self):
        world = random_world(176, (2, 4, 3), 3)
        groups = [[3], [0, 2], [1]]
        mixed = world.mixed(1, groups)
        table, old = mixed.made((0, 1, 2)), world.made((0, 1, 2))
        for row in itertools.product(range(2), range(3), range(3)):
            parts = [fraction(old.at((row[0], answer, row[2]))) for answer in groups[row[1]]]
            self.assertEqual(table.at(row), ratio(sum(parts)))
        self.assertEqual(world.without(1).made((0, 1)).entries, old.left_to((0, 2)).entries)

    def test_a_telling_look_may_become_dumb(self):
        world = World([(1, 2), (1, 2)], [[HALF, [(1, 2), (1, 2), 0]], [HALF, [(1, 2), 0, (1, 2)]]])
        self.assertEqual((telling(world), telling(world.mixed(1, [[0], [1, 2]]))), ((1,), ()))


class AgreeingTest(unittest.TestCase):

    def test_all_odd_walks_tell_what_the_world_makes(self):
        world = random_world(177, (2, 3, 2, 2), 2)
        sights = world.sights_of([(0, 1), (1, 2), (0, 2), (2, 3)])
        web = Web(sights)
        self.assertEqual(web.pieces, ((0, 1, 2, 3),))
        for look, steps in itertools.product(range(4), (1, 3, 5)):
            for walk in odd_walks(web, look, steps):
                x, y = (walk[0], 1), (walk[-1], 0)
                made = fraction(cov(world, x, y)) / (fraction(world.single(x)) * fraction(world.single(y)))
                self.assertEqual(along(sights, walk, x, y), ratio(made))


class SightsAgainTest(unittest.TestCase):

    def test_sights_of_a_world_from_their_text(self):
        for many in (1, 2, 4):
            world = random_world(178 + many, (2, 3, 2), many)
            sights = world.sights_of([(1, 2), (0, 2), (0, 1, 2)])
            again = sights_from(sights_text(sights))
            self.assertEqual(again, sights)
            self.assertTrue(world.stands_behind(again))


if __name__ == "__main__":
    unittest.main()
