"""Point 24 and the interface of hiddensorts/throwing.py."""

import itertools
import unittest

from hiddensorts.errors import BadSort
from hiddensorts.throwing import may_throw, thrown, thrown_all
from hiddensorts.worlds import World
from tests.tools import HALF, NO_INTEGERS, fraction, random_world, ratio

OFTEN, SELDOM = [(3, 4), (1, 4)], [(1, 4), (3, 4)]


def lots(many):
    return [lot for size in range(1, many + 1) for lot in itertools.combinations(range(many), size)]


class ThrownTest(unittest.TestCase):

    def test_example(self):
        w = World([(1, 4), (1, 4), (1, 2)], [[[1, 0], [1, 0]], [[1, 0], [0, 1]], [[0, 1], [(1, 2), (1, 2)]]])
        t = thrown(w, 1, 0)
        self.assertEqual([may_throw(w, 0, 1), may_throw(w, 0, 2), t.chances, t.sorts[0],
                          t.made((0, 1)) == w.made((0, 1))],
                         [True, False, ((1, 2), (1, 2)), (((1, 1), (0, 1)), ((1, 2), (1, 2))), True])

    def test_means_and_places(self):
        world = random_world(111, (2, 3), 4, low=-1)
        for one, two in itertools.permutations(range(4), 2):
            found = thrown(world, one, two)
            low, high = min(one, two), max(one, two)
            kept = [sort for sort in range(4) if sort != high]
            p, q = fraction(world.chances[low]), fraction(world.chances[high])
            for place, sort in enumerate(kept):
                if sort != low:
                    self.assertEqual((found.chances[place], found.sorts[place]),
                                     (world.chances[sort], world.sorts[sort]))
                    continue
                self.assertEqual(found.chances[place], ratio(p + q))
                for look in range(2):
                    for a in range(world.sizes[look]):
                        mean = (p * fraction(world.sorts[low][look][a]) + q * fraction(world.sorts[high][look][a]))
                        self.assertEqual(found.chance_at(place, (look, a)), ratio(mean / (p + q)))

    def test_refuses(self):
        world = random_world(112, (2,), 3)
        for call in (thrown, may_throw):
            for sort in NO_INTEGERS + [3, -1]:
                for pair in ((sort, 0), (0, sort)):
                    with self.assertRaises(BadSort):
                        call(world, *pair)
            for sort in range(3):
                with self.assertRaises(BadSort):
                    call(world, sort, sort)

    def test_tables_stay_exactly_if_at_most_one_look_differs(self):
        kinds = [OFTEN, SELDOM, HALF]
        words = []
        for looks in itertools.product(kinds, repeat=3):
            world = World([(1, 2), (1, 6), (1, 3)], [[OFTEN] * 3, list(looks), [HALF, SELDOM, OFTEN]])
            found = thrown(world, 0, 1)
            words.append(may_throw(world, 1, 0))
            self.assertIs(words[-1], sum(look != OFTEN for look in looks) <= 1)
            pairs = list(itertools.combinations(range(3), 2))
            self.assertEqual(words[-1], all(found.made(lot) == world.made(lot) for lot in pairs))
            self.assertEqual(words[-1], all(found.made(lot) == world.made(lot) for lot in lots(3)))
            alike = list(looks) == [OFTEN] * 3
            self.assertEqual(alike, all(found.made((look, look)) == world.made((look, look)) for look in range(3)))
        self.assertEqual(words.count(True), 7)

    def test_sorts_alike_in_no_one_or_all_looks(self):
        world = World([(1, 3)] * 3, [[OFTEN, OFTEN], [OFTEN, OFTEN], [SELDOM, SELDOM]])
        self.assertEqual([may_throw(world, 0, 1), may_throw(world, 0, 2)], [True, False])
        one_look = World([(1, 2), (1, 2)], [[OFTEN], [SELDOM]])
        self.assertIs(may_throw(one_look, 0, 1), True)


class ThrownAllTest(unittest.TestCase):

    def test_one_sort(self):
        world = World([1], [[HALF, OFTEN]])
        self.assertEqual(thrown_all(world), world)

    def test_nothing_to_throw(self):
        world = World([(1, 2), (1, 2)], [[OFTEN, OFTEN], [SELDOM, SELDOM]])
        self.assertEqual(thrown_all(world), world)

    def test_one_look_leaves_one_sort(self):
        world = random_world(113, (3,), 5)
        self.assertEqual(thrown_all(world), World([1], [[world.made((0,)).entries]]))

    def test_the_least_pair_goes_first(self):
        sorts = [[OFTEN, OFTEN], [SELDOM, SELDOM], [OFTEN, HALF], [SELDOM, OFTEN]]
        world = World([(1, 4)] * 4, sorts)
        # The pairs that differ in one look are (0, 2), (0, 3), (1, 3).
        first = thrown(world, 0, 2)
        self.assertEqual([may_throw(first, 0, 1), may_throw(first, 0, 2), may_throw(first, 1, 2)],
                         [False, False, True])
        self.assertEqual(thrown_all(world), thrown(first, 1, 2))
        self.assertNotEqual(thrown_all(world), thrown_all(thrown(world, 0, 3)))

    def test_what_is_left(self):
        for seed in range(8):
            world = random_world(120 + seed, (2, 2), 5, low=0)
            left = thrown_all(world)
            self.assertTrue(all(left.made(lot) == world.made(lot) for lot in lots(2)))
            for one, two in itertools.combinations(range(len(left)), 2):
                self.assertIs(may_throw(left, one, two), False)


if __name__ == "__main__":
    unittest.main()
