"""Points 33 and 34 and the interface of hiddensorts/walks.py."""

import itertools
import unittest
from fractions import Fraction

from hiddensorts.errors import BadSpot, BadWalk
from hiddensorts.giving import cov
from hiddensorts.sights import Sights
from hiddensorts.walks import along
from hiddensorts.webs import Web
from tests.tools import FAR, HALF, NEAR, NO_INTEGERS, NO_LISTS, QUARTERS, fraction, random_world, ratio


def chain():
    return Sights([HALF] * 5, seen=[((0, 1), NEAR), ((1, 2), FAR), ((2, 3), NEAR), ((3, 4), QUARTERS)])


def link_of(world, x, y):
    return ratio(fraction(cov(world, x, y)) / (fraction(world.single(x)) * fraction(world.single(y))))


class AlongTest(unittest.TestCase):

    def test_example(self):
        self.assertEqual(along(chain(), (0, 1, 2, 3), (0, 0), (3, 1)), (-9, 4))

    def test_one_step(self):
        s = chain()
        for x, y in itertools.product(range(2), repeat=2):
            self.assertEqual(along(s, [1, 2], [1, x], [2, y]), s.link((1, x), (2, y)))
            self.assertEqual(along(s, (2, 1), (2, x), (1, y)), s.link((1, y), (2, x)))

    def test_a_walk_there_and_back_tells_the_same(self):
        s = chain()
        self.assertEqual(along(s, (0, 1, 0, 1), (0, 0), (1, 0)), s.link((0, 0), (1, 0)))
        self.assertEqual(along(s, (0, 1, 2, 1, 2, 3), (0, 0), (3, 1)), (-9, 4))

    def test_what_a_world_of_two_sorts_makes(self):
        for seed in (141, 142):
            world = random_world(seed, (2, 3, 4, 2), 2, low=0)
            s = world.sights_of([(0, 1), (1, 2), (2, 3), (0, 2)])
            web = Web(s)
            for look, other in itertools.product(range(4), repeat=2):
                walk = web.walk(look, other, True)
                if walk is None:
                    continue
                for a, b in itertools.product(range(s.sizes[look]), range(s.sizes[other])):
                    self.assertEqual(along(s, walk, (look, a), (other, b)), link_of(world, (look, a), (other, b)))

    def test_pairs_that_do_not_agree(self):
        """By the definition, with the inner spots that the interface names."""
        world = random_world(143, (3, 3, 3, 3), 4, low=0)
        s = world.sights_of([(0, 1), (1, 2), (2, 3), (0, 3)])
        self.assertEqual(s.linked(), [(0, 1), (0, 3), (1, 2), (2, 3)])
        for walk in ((0, 1, 2, 3), (3, 2, 1, 0), (1, 2, 1, 0), (0, 3, 2, 1, 2, 3), (2, 1, 0, 3, 2, 1)):
            ends = itertools.product(range(3), repeat=2)
            for a, b in ends:
                self.assertEqual(along(s, walk, (walk[0], a), (walk[-1], b)),
                                 self.by_hand(s, walk, (walk[0], a), (walk[-1], b)))

    def by_hand(self, s, walk, x, y):
        inner = []
        for look, other in zip(walk[1:-1:2], walk[2:-1:2]):
            pairs = [((look, a), (other, b)) for a in range(s.sizes[look]) for b in range(s.sizes[other])]
            inner.append(next(pair for pair in pairs if s.link(*pair) != (0, 1)))
        stops = [x] + [spot for pair in inner for spot in pair] + [y]
        links = [fraction(s.link(one, two)) for one, two in zip(stops, stops[1:])]
        told = Fraction(1)
        for place, link in enumerate(links):
            told = told * link if place % 2 == 0 else told / link
        return ratio(told)

    def test_the_least_spot_with_a_link_is_taken(self):
        single = [(1, 4), (1, 4), (1, 2)]
        # The first answer of look 1 has no link with look 2, nor the first of look 2 with look 1.
        inner = [(1, 16), (1, 16), (1, 8), (1, 16), (1, 8), (1, 16), (1, 8), (1, 16), (5, 16)]
        outer = [(1, 8), (1, 16), (1, 16), (1, 16), (1, 8), (1, 16), (1, 16), (1, 16), (3, 8)]
        s = Sights([single] * 4, seen=[((0, 1), outer), ((1, 2), inner), ((2, 3), outer)])
        self.assertEqual(s.link((1, 0), (2, 2)), (0, 1))
        for a, b in itertools.product(range(3), repeat=2):
            self.assertEqual(along(s, (0, 1, 2, 3), (0, a), (3, b)), self.by_hand(s, (0, 1, 2, 3), (0, a), (3, b)))

    def test_wrong_walks(self):
        s = chain()
        for walk in NO_LISTS + [(), [], (0,), (0, 1, 2), [9, 9, 9]]:
            with self.assertRaises(BadWalk) as caught:
                along(s, walk, None, None)
            self.assertEqual(caught.exception.place, -1)
        for walk, place in (((5, 1), 0), ((0, 5), 1), ((0, 2), 1), ((0, 0), 1), ((3, 4), 1), ((0, 1, 2, 4), 3),
                            ((0, 1, 1, 0), 2), ((0, 1, 2, -1), 3), ((0, 1, 3, 9), 2), ((4, 3), 1), ((-1, 9), 0)):
            with self.assertRaises(BadWalk) as caught:
                along(s, list(walk), None, None)
            self.assertEqual(caught.exception.place, place, walk)
        for look in NO_INTEGERS:
            for walk, place in (((look, 1), 0), ((0, look), 1), ((0, 1, look, None), 2)):
                with self.assertRaises(BadWalk) as caught:
                    along(s, walk, None, None)
                self.assertEqual(caught.exception.place, place)

    def test_wrong_spots(self):
        s = chain()
        for spot in NO_LISTS + [(5, 0), (0, 2), (0,), (0, True), (1, 0), (3, 0)]:
            with self.assertRaises(BadSpot):
                along(s, (0, 1), spot, (1, 0))
        for spot in NO_LISTS + [(5, 0), (1, 2), (1,), (1, True), (0, 0), (3, 0)]:
            with self.assertRaises(BadSpot):
                along(s, (0, 1), (0, 0), spot)


if __name__ == "__main__":
    unittest.main()
