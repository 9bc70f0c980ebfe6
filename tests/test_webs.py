"""Points 31 and 32 and the interface of hiddensorts/webs.py."""

import itertools
import random
import unittest

from hiddensorts.errors import BadLook, BadPiece
from hiddensorts.sights import Sights
from hiddensorts.webs import Web
from tests.tools import FAR, HALF, NEAR, NO_INTEGERS, QUARTERS, as_it_looks, random_world


def sights_with(many, linked, unlinked=()):
    seen = [(pair, FAR) for pair in linked] + [(pair, QUARTERS) for pair in unlinked]
    return Sights([HALF] * many, seen=seen)


def least_steps(many, linked, look, other, odd):
    """The least number of steps by counting: which looks can walks of 1, 2, 3 .. steps reach."""
    reach = {look}
    for steps in range(1, 4 * many + 2):
        reach = {b for pair in linked for a, b in (pair, pair[::-1]) if a in reach}
        if other in reach and steps % 2 == (1 if odd else 0):
            return steps
    return None


class WebTest(unittest.TestCase):

    def test_example(self):
        s = Sights([HALF] * 4, seen=[((0, 1), NEAR), ((1, 2), FAR), ((2, 3), NEAR)])
        web = Web(s)
        self.assertEqual([web.walk(0, 3, True), web.walk(0, 2, True), web.sides_of(0)],
                         [(0, 1, 2, 3), None, ((0, 2), (1, 3))])

    def test_pieces_and_loners(self):
        sights = sights_with(8, [(1, 3), (3, 6), (0, 7), (2, 7), (0, 2)], [(4, 6), (4, 5)])
        web = Web(sights)
        self.assertEqual(web.pieces, ((0, 2, 7), (1, 3, 6)))
        self.assertEqual((web.loners, web.still), ((4, 5), (4,)))
        self.assertIs(web.sights, sights)
        self.assertTrue(as_it_looks((web.pieces, web.loners, web.still)))
        self.assertEqual([web.piece_of(look) for look in range(8)], [0, 1, 0, 1, -1, -1, 1, 0])
        self.assertEqual([web.is_ringed(0), web.is_ringed(1)], [True, False])
        self.assertEqual([web.sides_of(0), web.sides_of(1)], [((0, 2, 7), ()), ((1, 6), (3,))])
        self.assertEqual(web.free, 1)
        self.assertEqual([web.steps(look) for look in range(8)],
                         [(2, 7), (3,), (0, 7), (1, 6), (), (), (3,), (0, 2)])

    def test_pieces_go_by_their_least_looks(self):
        web = Web(sights_with(6, [(0, 5), (1, 2), (3, 4)]))
        self.assertEqual((web.pieces, web.piece_of(5)), (((0, 5), (1, 2), (3, 4)), 0))

    def test_no_pieces(self):
        web = Web(sights_with(3, [], [(0, 1), (0, 2), (1, 2)]))
        self.assertEqual((web.pieces, web.loners, web.still, web.free), ((), (0, 1, 2), (), 0))
        self.assertIsNone(web.walk(0, 1, True))
        self.assertIsNone(web.walk(0, 0, False))
        with self.assertRaises(BadPiece):
            web.is_ringed(0)

    def test_an_unlinked_pair_within_a_piece_is_no_step(self):
        web = Web(sights_with(3, [(0, 1), (1, 2)], [(0, 2)]))
        self.assertEqual((web.pieces, web.is_ringed(0), web.steps(0)), (((0, 1, 2),), False, (1,)))

    def test_pairs_of_larger_lots_count(self):
        world = random_world(131, (2, 2, 2, 2), 2, low=1, alike=1)
        web = Web(world.sights_of([(0, 1, 2), (2, 3)]))
        self.assertEqual((web.pieces, web.still, web.is_ringed(0)), (((1, 2, 3),), (0,), False))
        self.assertEqual(Web(world.sights_of([(1, 2, 3)])).is_ringed(0), True)

    def test_least_walks(self):
        source = random.Random(132)
        for many in (2, 3, 5, 6, 8):
            pairs = list(itertools.combinations(range(many), 2))
            for _ in range(6):
                linked = source.sample(pairs, source.randint(0, min(len(pairs), many + 1)))
                web = Web(sights_with(many, linked))
                for look, other in itertools.product(range(many), repeat=2):
                    self.check_walks(web, many, linked, look, other)

    def check_walks(self, web, many, linked, look, other):
        for odd in (True, False):
            steps = least_steps(many, linked, look, other, odd)
            walk = web.walk(look, other, odd)
            self.assertEqual(walk is None, steps is None)
            if walk is not None:
                self.assertIs(type(walk), tuple)
                self.assertEqual((walk[0], walk[-1], len(walk) - 1), (look, other, steps))
                self.assertTrue(all(tuple(sorted(step)) in linked for step in zip(walk, walk[1:])))
                self.assertEqual(walk, web.walk(look, other, odd))
        joined = web.piece_of(look) >= 0 and web.piece_of(look) == web.piece_of(other)
        self.assertEqual(joined, any(web.walk(look, other, odd) is not None for odd in (True, False)))
        if joined:
            number = web.piece_of(look)
            self.assertEqual(web.is_ringed(number), web.walk(look, look, True) is not None)
            sides = web.sides_of(number)
            self.assertEqual(tuple(sorted(sides[0] + sides[1])), web.pieces[number])
            if not web.is_ringed(number):
                one_side = (look in sides[0]) == (other in sides[0])
                self.assertEqual(one_side, web.walk(look, other, True) is None)
                self.assertIn(web.pieces[number][0], sides[0])
        self.assertEqual(web.free, [web.is_ringed(k) for k in range(len(web.pieces))].count(False))

    def test_walks_that_come_back(self):
        web = Web(sights_with(5, [(0, 1), (1, 2), (0, 2), (2, 3)]))
        self.assertEqual(web.walk(3, 3, False), (3, 2, 3))
        self.assertEqual(len(web.walk(3, 3, True)), 6)
        self.assertEqual(len(web.walk(0, 0, True)), 4)
        self.assertEqual(web.walk(2, 3, True), (2, 3))
        self.assertEqual(len(web.walk(2, 3, False)), 5)
        self.assertIsNone(web.walk(4, 4, False))

    def test_wrong_looks(self):
        web = Web(sights_with(3, [(0, 1)]))
        for look in NO_INTEGERS + [3, -1]:
            for call in (web.piece_of, web.steps):
                with self.assertRaises(BadLook):
                    call(look)
            for pair in ((look, 0), (0, look)):
                with self.assertRaises(BadLook):
                    web.walk(*pair, True)

    def test_wrong_pieces(self):
        web = Web(sights_with(4, [(0, 1), (2, 3)]))
        for number in NO_INTEGERS + [2, -1]:
            for call in (web.is_ringed, web.sides_of):
                with self.assertRaises(BadPiece):
                    call(number)


if __name__ == "__main__":
    unittest.main()
