"""Points 106, 107, 109 and 114 and the interface of hiddensorts/fullness.py."""

import itertools
import random
import unittest
from fractions import Fraction

from hiddensorts.drawings import Drawing, drawn_look, turns
from hiddensorts.errors import BadLot, BadNumber
from hiddensorts.fullness import (blind_pair, dependence, is_full, lot_matrix, pair_matrix, table_rank, yes_no_full)
from hiddensorts.matrices import rank
from hiddensorts.tables import Table
from hiddensorts.worlds import World
from tests.shares import (across, chances_by_hand, pair_by_hand, product, random_drawing, rank_by_hand, ratios_of)
from tests.tools import NO_LISTS, NO_NUMBERS, as_it_looks, fraction, random_world, ratio

LOTS = [(0,), (1,), (3,), (0, 1), (0, 2), (2, 3), (0, 1, 3)]
SIZES = (2, 3, 2, 4)


def worlds(count=30):
    """Worlds of one to five sorts; some are not fair, some have looks in which the sorts are alike."""
    for seed in range(count):
        yield random_world(9600 + seed, SIZES, 1 + seed % 5, low=-1 if seed % 4 == 3 else seed % 2, alike=seed % 3)
    # Two sorts that are alike in all looks but the last, and a third one between them.
    plain = [[(1, 2), (1, 2)], [(1, 3)] * 3, [(1, 4), (3, 4)]]
    yield World([(1, 4), (1, 4), (1, 2)], [plain + [[1, 0, 0, 0]], plain + [[0, 1, 0, 0]],
                                           plain + [[(1, 2), (1, 2), 0, 0]]])


class LotMatrixTest(unittest.TestCase):

    def test_chances_of_rows(self):
        for world in worlds():
            for lot in LOTS:
                found = lot_matrix(world, list(lot))
                self.assertEqual(found, ratios_of(chances_by_hand(world, lot)))
                self.assertTrue(as_it_looks(found))
                self.assertIs(is_full(world, lot), rank_by_hand(chances_by_hand(world, lot)) == len(world))

    def test_a_lot_is_full_if_some_of_its_looks_are(self):
        words = []
        for world in worlds():
            for lot, less in itertools.permutations(LOTS, 2):
                if set(less) < set(lot):
                    words.append((is_full(world, lot), is_full(world, less)))
                    self.assertTrue(words[-1][0] or not words[-1][1])
        self.assertEqual(set(words), {(True, True), (True, False), (False, False)})

    def test_dependences(self):
        found = []
        for world in worlds():
            for lot in LOTS:
                tie = dependence(world, list(lot))
                self.assertEqual(tie is None, is_full(world, lot))
                found.append(tie is None)
                if tie is not None:
                    self.assertTrue(type(tie) is tuple and len(tie) == len(world) and as_it_looks(tie))
                    c = [fraction(number) for number in tie]
                    self.assertEqual(tie, tuple(ratio(number) for number in c))
                    self.assertTrue(any(c))
                    self.assertEqual(sum(c), 0)
                    for row in chances_by_hand(world, lot):
                        self.assertEqual(sum(number * chance for number, chance in zip(c, row)), 0)
        self.assertGreater(min(found.count(True), found.count(False)), 20)

    def test_two_sorts(self):
        same = World([(1, 2), (1, 2)], [[[(1, 2), (1, 2)], [1, 0]], [[(1, 2), (1, 2)], [0, 1]]])
        self.assertEqual([is_full(same, (0,)), is_full(same, (1,)), is_full(same, (0, 1))], [False, True, True])
        tie = dependence(same, (0,))
        self.assertEqual(fraction(tie[0]), -fraction(tie[1]))

    def test_refuses(self):
        world = random_world(9640, (2, 3), 2)
        for call in (lot_matrix, is_full, dependence, blind_pair):
            for lot, place in ([(value, -1) for value in NO_LISTS]
                               + [([2], 0), ([0, 2], 1), ([1, 0], 1), ([0, 0], 1), ([True], 0), ((), -1), ([], -1)]):
                with self.assertRaises(BadLot) as caught:
                    call(world, lot)
                self.assertEqual(caught.exception.place, place)


class PairMatrixTest(unittest.TestCase):

    def test_of_made_tables(self):
        many = 0
        for world in worlds():
            table = world.made((0, 1, 2, 3))
            for lot, other in itertools.permutations(LOTS, 2):
                if set(lot) & set(other):
                    continue
                found = pair_matrix(table, list(lot), other)
                self.assertEqual(found, ratios_of(pair_by_hand(world, lot, other)))
                self.assertEqual(pair_matrix(table, other, lot), tuple(zip(*found)))
                wanted = rank_by_hand(pair_by_hand(world, lot, other))
                self.assertEqual(table_rank(table, lot, list(other)), wanted)
                self.assertEqual(rank(found), wanted)
                self.assertLessEqual(wanted, len(world))
                self.assertEqual(wanted == len(world), is_full(world, lot) and is_full(world, other))
                self.assertTrue(as_it_looks(found))
                many += 1
        self.assertGreater(many, 300)

    def test_the_first_place_of_a_look_asked_again_is_kept(self):
        world = random_world(9641, (2, 3, 2), 2)
        for asking in ((0, 1, 1), (0, 0, 1, 2), (0, 1, 2, 2)):
            self.assertEqual(pair_matrix(world.made(asking), (1,), (0,)), ratios_of(pair_by_hand(world, (1,), (0,))))

    def test_tables_that_no_world_made(self):
        table = Table((0, 2), (2, 2, 3), [(1, 6), (-1, 6), (1, 2), (1, 6), 0, (1, 3)])
        self.assertEqual(pair_matrix(table, (0,), (2,)), (((1, 6), (-1, 6), (1, 2)), ((1, 6), (0, 1), (1, 3))))

    def test_refuses(self):
        table = random_world(9642, (2, 3, 2, 2), 2).made((0, 1, 3))
        for call in (pair_matrix, table_rank):
            for lot, place in ([(value, -1) for value in NO_LISTS]
                               + [([4], 0), ([0, 4], 1), ([1, 0], 1), ([0, 0], 1), ([True], 0), ((), -1), ([2], 0),
                                  ([0, 2], 1), ([1, 2, 3], 1)]):
                for pair in ((lot, None), (lot, (0,)), ((0,), lot)):
                    with self.assertRaises(BadLot) as caught:
                        call(table, *pair)
                    self.assertEqual(caught.exception.place, place)
            for lot, other in (((0,), (0,)), ((0, 1), (1, 3)), ((3,), (0, 3))):
                with self.assertRaises(BadLot) as caught:
                    call(table, lot, other)
                self.assertEqual(caught.exception.place, -1)


class BlindPairTest(unittest.TestCase):
    """Point 109."""

    def test_two_worlds_with_one_table(self):
        found = []
        for world in worlds():
            for lot in LOTS:
                pair = blind_pair(world, list(lot))
                found.append(pair is None)
                self.assertEqual(pair is None, is_full(world, lot))
                if pair is not None:
                    self.check(world, lot, pair)
        self.assertGreater(min(found.count(True), found.count(False)), 20)

    def check(self, world, lot, pair):
        self.assertIs(type(pair), tuple)
        n = len(world.sizes)
        for more in pair:
            self.assertEqual((type(more), more.chances, more.sizes), (World, world.chances, world.sizes + (2,)))
            self.assertEqual(more.without(n), world)
            self.assertTrue(all(f[0] >= 0 for sort in more.sorts for f in sort[n]))
        self.assertTrue(all(sort[n] == ((1, 2), (1, 2)) for sort in pair[0].sorts))
        moves = [fraction(p) * (fraction(sort[n][0]) - Fraction(1, 2)) for p, sort in zip(world.chances, pair[1].sorts)]
        self.assertTrue(any(moves))
        for row in chances_by_hand(world, lot):
            self.assertEqual(sum(move * chance for move, chance in zip(moves, row)), 0)
        self.assertEqual(pair[0].made(lot + (n,)), pair[1].made(lot + (n,)))

    def test_drawn_exactly_as_the_full_lot_sees_it(self):
        source, words = random.Random(9650), []
        for world in worlds():
            if not world.fair or not is_full(world, (3,)):
                continue
            drawing = Drawing(random_drawing(source, 2, 3))
            more = drawn_look(world, 1, drawing)
            one, two = [ratios_of(pair_by_hand(more, (at,), (3,))) for at in (1, 4)]
            for other in [drawing] + [Drawing(random_drawing(source, 2, 3)) for _ in range(4)]:
                drawn = product([[fraction(k) for k in row] for row in other.matrix], chances_by_hand(more, (1,)))
                words.append(drawn == chances_by_hand(more, (4,)))
                self.assertEqual(turns(other, one, two), words[-1])
        self.assertEqual(set(words), {True, False})

    def test_a_lot_that_is_not_full_may_be_blind(self):
        world = random_world(9651, (2, 3), 3, low=1)
        one, two = blind_pair(world, (0,))
        matrices = [ratios_of(pair_by_hand(more, (2,), (0,))) for more in (one, two)]
        self.assertEqual(matrices[0], matrices[1])
        # The new look of the second world is not drawn from that of the first one, though the lot sees them alike.
        self.assertNotEqual(across(chances_by_hand(one, (2,))), across(chances_by_hand(two, (2,))))


class YesNoTest(unittest.TestCase):

    def full(self, points):
        values = [[Fraction(1), u, v, u * v] for u, v in points]
        return rank_by_hand(values) == len(values)

    def test_any_points(self):
        source, words = random.Random(9660), []
        for _ in range(300):
            points = [(Fraction(source.randint(0, 3), 3), Fraction(source.randint(-1, 2), 2))
                      for _ in range(source.randint(1, 5))]
            found = yes_no_full([[list(ratio(u)), ratio(v)] for u, v in points])
            self.assertIs(found, self.full(points))
            us, vs = [{point[at] for point in points} for at in (0, 1)]
            if len(points) <= 2:
                self.assertEqual(found, len(set(points)) == len(points))
            if len(points) == 3:
                self.assertEqual(found, len(set(points)) == 3 and len(us) > 1 and len(vs) > 1)
            if len(points) == 5:
                self.assertFalse(found)
            words.append((len(points), found))
        self.assertEqual(set(words), {(many, word) for many in range(1, 6) for word in (True, False)}
                         - {(1, False), (5, True)})

    def test_lots_of_two_looks(self):
        for seed in range(20):
            world = random_world(9670 + seed, (2, 2), 1 + seed % 5, low=0)
            points = [(sort[0][0], sort[1][0]) for sort in world.sorts]
            self.assertEqual(yes_no_full(points), is_full(world, (0, 1)))

    def test_example(self):
        self.assertEqual([yes_no_full([(0, 0), (0, 1), (1, 0)]), yes_no_full([(0, 0), (0, (1, 2)), (0, 1)])],
                         [True, False])

    def test_refuses(self):
        for value in NO_LISTS + [[], (), [(0, 0), (0,)], [(0, 0, 0)], [0], [None], ["01"], [(1, 2), 3]]:
            with self.assertRaises(BadNumber):
                yes_no_full(value)
        for value in NO_NUMBERS:
            for point in ((value, 0), (0, value)):
                with self.assertRaises(BadNumber):
                    yes_no_full([(0, 1), point])
        self.assertIs(yes_no_full(([(-5, 3), 10 ** 30],)), True)


if __name__ == "__main__":
    unittest.main()
