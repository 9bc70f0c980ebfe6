"""Points 121 and 122 and the interface of hiddensorts/evens.py."""

import unittest

from hiddensorts.errors import BadLook, NotEven, NotJoined, NotSeen
from hiddensorts.evens import EvenWeb
from hiddensorts.matrices import inverse
from hiddensorts.sights import Sights
from hiddensorts.webs import Web
from tests.evens import RINGED, SIDED, base_by_hand, even_worlds, seen_by_hand, walks_of
from tests.shares import ratios_of
from tests.tools import FAR, HALF, NO_INTEGERS, QUARTERS, as_it_looks, random_world


class EvenWebTest(unittest.TestCase):

    def test_attributes(self):
        for kinds, ringed in ((SIDED, False), (RINGED, True)):
            for world, web in even_worlds(kinds):
                self.assertEqual((web.rank, web.ringed), (len(world), ringed))
                self.assertEqual(web.sights, world.sights_of(web.sights.lots))
                plain = Web(web.sights)
                self.assertEqual(plain.pieces, (tuple(range(len(world.sizes))),))
                self.assertEqual(web.sides, plain.sides_of(0))
                self.assertTrue(type(web.sides) is tuple and as_it_looks(web.sides))
                self.assertIs(type(web.rank), int)
                self.assertEqual(web.sights.linked(), web.sights.pairs())
                if ringed:
                    self.assertEqual(web.sides, (tuple(range(len(world.sizes))), ()))
                else:
                    self.assertIn(0, web.sides[0])
                    for look, other in web.sights.pairs():
                        self.assertNotEqual(look in web.sides[0], other in web.sides[0])

    def test_seen_matrices_and_bases(self):
        for _, web in even_worlds(SIDED + RINGED):
            for look, other in web.sights.pairs():
                for pair in ((look, other), (other, look)):
                    found = web.seen_matrix(*pair)
                    self.assertEqual(found, ratios_of(seen_by_hand(web.sights, *pair)))
                    base = web.base_of(*pair)
                    self.assertEqual(base, base_by_hand(web.sights, *pair))
                    self.assertEqual([len(answers) for answers in base], [web.rank] * 2)
                    self.assertTrue(as_it_looks(base) and type(base) is tuple)
                    self.assertIsNotNone(inverse([[found[a][b] for b in base[1]] for a in base[0]]))
                    self.assertEqual(web.base_of(*pair[::-1]), base[::-1])

    def test_walks(self):
        for _, web in even_worlds(SIDED + RINGED, sorts=(2,)):
            many = len(web.sights.sizes)
            for look in range(many):
                walks = {steps: walks_of(web, look, steps) for steps in range(1, 7)}
                for other in range(many):
                    for odd in (True, False):
                        lengths = [steps for steps in walks if steps % 2 == int(odd)
                                   and any(walk[-1] == other for walk in walks[steps])]
                        found = web.walk(look, other, odd)
                        if not lengths:
                            self.assertIsNone(found)
                            continue
                        self.assertIs(type(found), tuple)
                        self.assertIn(found, walks[lengths[0]])
                        self.assertEqual(found[-1], other)

    def test_examples(self):
        web = EvenWeb(Sights([HALF] * 3, seen=[((0, 1), FAR), ((1, 2), FAR)]))
        self.assertEqual([web.rank, web.sides, web.base_of(1, 0), web.walk(0, 0, False)],
                         [2, ((0, 2), (1,)), ((0, 1), (0, 1)), (0, 1, 0)])

    def test_larger_lots(self):
        world = random_world(10990, (3, 3, 3), 3, low=1)
        whole = EvenWeb(world.sights_of([(0, 1, 2)]))
        pairs = EvenWeb(world.sights_of([(0, 1), (0, 2), (1, 2)]))
        self.assertEqual((whole.rank, whole.ringed, whole.seen_matrix(2, 0)),
                         (pairs.rank, pairs.ringed, pairs.seen_matrix(2, 0)))


class RefusesTest(unittest.TestCase):

    def refused(self, sights, error, word, value):
        with self.assertRaises(error) as caught:
            EvenWeb(sights)
        self.assertEqual(getattr(caught.exception, word), value)

    def test_not_joined(self):
        self.refused(Sights([HALF]), NotJoined, "look", 0)
        self.refused(Sights([HALF] * 2), NotJoined, "look", 1)
        self.refused(Sights([HALF] * 4, seen=[((0, 2), FAR)]), NotJoined, "look", 1)
        self.refused(Sights([HALF] * 4, seen=[((0, 1), FAR), ((2, 3), FAR)]), NotJoined, "look", 2)
        self.refused(Sights([HALF] * 4, seen=[((1, 2), FAR), ((2, 3), FAR)]), NotJoined, "look", 1)
        # Joined by pairs that are not linked counts; that some look is not joined comes first.
        self.refused(Sights([HALF] * 4, seen=[((0, 1), QUARTERS), ((1, 2), FAR)]), NotJoined, "look", 3)

    def test_not_even(self):
        self.refused(Sights([HALF] * 2, seen=[((0, 1), QUARTERS)]), NotEven, "pair", (0, 1))
        self.refused(Sights([HALF] * 3, seen=[((1, 2), QUARTERS), ((0, 1), FAR)]), NotEven, "pair", (1, 2))
        self.refused(Sights([HALF] * 3, seen=[((1, 2), FAR), ((0, 1), QUARTERS)]), NotEven, "pair", (0, 1))
        third = [(1, 3)] * 3
        three = [(1, 3), 0, 0, 0, (1, 3), 0, 0, 0, (1, 3)]
        two = [(1, 3), 0, 0, 0, (1, 6), (1, 6), 0, (1, 6), (1, 6)]
        self.refused(Sights([third] * 3, seen=[((0, 1), three), ((1, 2), two)]), NotEven, "pair", (1, 2))
        self.refused(Sights([third] * 3, seen=[((0, 1), two), ((0, 2), three), ((1, 2), three)]), NotEven, "pair",
                     (0, 2))
        self.assertEqual(EvenWeb(Sights([third] * 3, seen=[((0, 1), three), ((0, 2), three)])).rank, 3)

    def test_looks(self):
        web = EvenWeb(Sights([HALF] * 3, seen=[((0, 1), FAR), ((1, 2), FAR)]))
        for call in (web.seen_matrix, web.base_of):
            for look in NO_INTEGERS + [3, -1]:
                for pair in ((look, 0), (0, look), (look, look)):
                    with self.assertRaises(BadLook):
                        call(*pair)
            for look in range(3):
                with self.assertRaises(BadLook):
                    call(look, look)
            for pair in ((0, 2), (2, 0)):
                with self.assertRaises(NotSeen) as caught:
                    call(*pair)
                self.assertEqual(caught.exception.lot, (0, 2))
        for look in NO_INTEGERS + [3, -1]:
            for odd in (True, False):
                with self.assertRaises(BadLook):
                    web.walk(look, 0, odd)
                with self.assertRaises(BadLook):
                    web.walk(0, look, odd)
        self.assertEqual((web.walk(0, 0, True), web.walk(0, 2, True)), (None, None))


if __name__ == "__main__":
    unittest.main()
