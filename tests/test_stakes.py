"""Points 95, 108 and 113 and the interface of hiddensorts/stakes.py."""

import itertools
import random
import unittest
from fractions import Fraction

from hiddensorts.bets import bet_worth
from hiddensorts.drawings import Drawing, drawn_look
from hiddensorts.errors import BadLot, BadMatrix, BadStakes, NotFull
from hiddensorts.frames import frame_of
from hiddensorts.fullness import dependence, is_full, lot_matrix
from hiddensorts.giving import given_world
from hiddensorts.stakes import Stakes, carried, carried_back, knowing, worth_by, worth_of_sorts
from hiddensorts.webs import Web
from hiddensorts.worlds import World
from tests.shares import (chances_by_hand, pair_by_hand, random_drawing, random_matrix, ratios_of, worth_by_hand)
from tests.test_barring import inner_worlds
from tests.test_drawings import many_pieces, worlds_of_piece
from tests.test_fullness import LOTS, worlds
from tests.tools import NO_LISTS, NO_NUMBERS, as_it_looks, fraction, random_world, ratio

WORLD = World([(1, 2), (1, 2)], [[[(3, 4), (1, 4)]], [[(1, 4), (3, 4)]]])
NAMING = Stakes([[1, 0], [0, 1]])


def random_stakes(source, width, *, most=4):
    return Stakes(ratios_of(random_matrix(source, source.randint(1, most), width)))


def acts_of(stakes):
    return [[fraction(number) for number in act] for act in stakes.acts]


def worth_in(world, lot, acts):
    """The worth by a lot of acts on the sorts, by definition."""
    weighed = [[share * fraction(p) for share, p in zip(row, world.chances)] for row in chances_by_hand(world, lot)]
    return worth_by_hand(weighed, acts)


class StakesTest(unittest.TestCase):

    def test_attributes(self):
        found = Stakes([[1, (2, 4)], ([0, 3], -1)])
        self.assertEqual((found.acts, found.width, len(found)), ((((1, 1), (1, 2)), ((0, 1), (-1, 1))), 2, 2))
        self.assertTrue(as_it_looks(found.acts))
        acts = [[1, [1, 2]]]
        found = Stakes(acts)
        acts[0][1][0] = 5
        acts[0].append(3)
        self.assertEqual(found.acts, (((1, 1), (1, 2)),))

    def test_signs(self):
        one, two = Stakes([[1, 2], [3, 4]]), Stakes([[(1, 2), 0]])
        self.assertEqual((one + two).acts, one.acts + two.acts)
        self.assertEqual((two + one).acts, two.acts + one.acts)
        self.assertEqual((-one).acts, (((-1, 1), (-2, 1)), ((-3, 1), (-4, 1))))
        self.assertEqual((-Stakes([[0]])).acts, (((0, 1),),))
        self.assertTrue(-(-one) == one and one == Stakes(([1, 2], ((6, 2), 4))))
        self.assertFalse(one == Stakes([[3, 4], [1, 2]]))
        self.assertFalse(one == one.acts)
        self.assertEqual((one.acts, two.acts), ((((1, 1), (2, 1)), ((3, 1), (4, 1))), (((1, 2), (0, 1)),)))
        for other in (Stakes([[1]]), Stakes([[1, 2, 3]])):
            with self.assertRaises(BadStakes):
                one + other

    def test_refuses(self):
        for value in NO_LISTS + [[], [[]], [1], [[1], [1, 2]], [[1, 2], None], [[], []]]:
            with self.assertRaises(BadStakes):
                Stakes(value)
        for value in NO_NUMBERS:
            with self.assertRaises(BadStakes):
                Stakes([[1, 2], [3, value]])


class WorthTest(unittest.TestCase):

    def test_by_a_matrix(self):
        source = random.Random(9700)
        for _ in range(60):
            matrix = random_matrix(source, source.randint(1, 9), source.randint(1, 9))
            stakes = random_stakes(source, len(matrix[0]))
            found = worth_by([list(row) for row in ratios_of(matrix)], stakes)
            self.assertEqual(found, ratio(worth_by_hand(matrix, acts_of(stakes))))
            self.assertTrue(as_it_looks(found))

    def test_by_a_lot(self):
        source = random.Random(9701)
        for world in worlds():
            for lot in LOTS:
                stakes = random_stakes(source, len(world))
                self.assertEqual(worth_of_sorts(world, list(lot), stakes), ratio(worth_in(world, lot, acts_of(stakes))))
                best = sum(fraction(p) * max(act[s] for act in acts_of(stakes)) for s, p in enumerate(world.chances))
                self.assertEqual(knowing(world, stakes), ratio(best))

    def test_bets_are_stakes(self):
        source = random.Random(9702)
        for world in list(worlds())[:6]:
            table = world.made((1, 3))
            for price in (Fraction(1, 2), Fraction(-1, 3), Fraction(2)):
                answer = source.randrange(4)
                stakes = Stakes([[ratio((1 if z == answer else 0) - price) for z in range(4)], [0] * 4])
                self.assertEqual(bet_worth(table, (3, answer), ratio(price)),
                                 worth_by(ratios_of(pair_by_hand(world, (1,), (3,))), stakes))

    def test_examples(self):
        self.assertEqual((worth_of_sorts(WORLD, (0,), NAMING), knowing(WORLD, NAMING)), ((3, 4), (1, 1)))
        self.assertEqual(carried_back(WORLD, (0,), Stakes([[1, 0]])).acts, (((3, 2), (-1, 2)),))

    def test_refuses(self):
        wide = Stakes([[1, 2, 3]])
        for value in NO_LISTS + [[], [[]], [[1], [1, 2]], [[None]], [1]]:
            for stakes in (NAMING, wide):
                with self.assertRaises(BadMatrix):
                    worth_by(value, stakes)
        for matrix in ([[1]], [[1, 2, 3]], [[1], [2]]):
            with self.assertRaises(BadStakes):
                worth_by(matrix, NAMING)
        for call in (worth_of_sorts, carried, carried_back):
            for lot, place in ([(value, -1) for value in NO_LISTS]
                               + [([1], 0), ([0, 0], 1), ([True], 0), ((), -1), ([], -1), ([0, 1], 1)]):
                for stakes in (NAMING, wide):
                    with self.assertRaises(BadLot) as caught:
                        call(WORLD, lot, stakes)
                    self.assertEqual(caught.exception.place, place)
            with self.assertRaises(BadStakes):
                call(WORLD, (0,), wide)
        with self.assertRaises(BadStakes):
            knowing(WORLD, wide)
        # Not full, but the width is judged first.
        dumb = World([(1, 2), (1, 2)], [[[(3, 4), (1, 4)]]] * 2)
        with self.assertRaises(BadStakes):
            carried_back(dumb, (0,), wide)
        with self.assertRaises(NotFull):
            carried_back(dumb, (0,), NAMING)


class CarriedTest(unittest.TestCase):
    """Point 108."""

    def test_by_definition(self):
        source = random.Random(9710)
        for world in worlds():
            for lot in LOTS:
                matrix = chances_by_hand(world, lot)
                stakes = random_stakes(source, len(matrix))
                found = carried(world, list(lot), stakes)
                self.assertIs(type(found), Stakes)
                wanted = [[sum(row[s] * number for row, number in zip(matrix, act)) for s in range(len(world))]
                          for act in acts_of(stakes)]
                self.assertEqual(found.acts, ratios_of(wanted))
                tie = dependence(world, lot)
                if tie is not None:
                    for act in wanted:
                        self.assertEqual(sum(fraction(c) * number for c, number in zip(tie, act)), 0)

    def test_the_worth_is_that_of_what_is_carried(self):
        source = random.Random(9711)
        for world in worlds():
            if not world.fair:
                continue
            for lot, other in itertools.permutations(LOTS, 2):
                if not set(lot) & set(other):
                    stakes = random_stakes(source, len(lot_matrix(world, lot)))
                    self.assertEqual(worth_by(ratios_of(pair_by_hand(world, other, lot)), stakes),
                                     worth_of_sorts(world, other, carried(world, lot, stakes)))

    def test_carried_back(self):
        source, words = random.Random(9712), []
        for world in worlds():
            for lot in LOTS:
                stakes = random_stakes(source, len(world))
                words.append(is_full(world, lot))
                if not words[-1]:
                    with self.assertRaises(NotFull):
                        carried_back(world, lot, stakes)
                    continue
                found = carried_back(world, list(lot), stakes)
                self.assertEqual((type(found), found.width, len(found)),
                                 (Stakes, len(lot_matrix(world, lot)), len(stakes)))
                self.assertEqual(carried(world, lot, found), stakes)
        self.assertGreater(min(words.count(True), words.count(False)), 20)

    def test_told_worths_in_a_piece(self):
        # An odd walk joins the looks: the worth is the same in all worlds of the piece, fair or not.
        source, many = random.Random(9713), 0
        for sights, number in many_pieces():
            web = Web(sights)
            frame = frame_of(sights, number)
            tilts = frame.tilts
            for i, z in itertools.permutations(tilts.looks, 2):
                if web.walk(i, z, True) is None:
                    continue
                stakes = random_stakes(source, sights.sizes[z])
                table = tilts.told_table(i, z)
                matrix = [[table.at((a, b) if i < z else (b, a)) for b in range(sights.sizes[z])]
                          for a in range(sights.sizes[i])]
                worth = worth_by(matrix, stakes)
                for world in worlds_of_piece(tilts) + inner_worlds(frame)[:3]:
                    self.assertEqual(worth_by_hand(pair_by_hand(world, (i,), (z,)), acts_of(stakes)), fraction(worth))
                for world in inner_worlds(frame)[:3]:
                    self.assertEqual(worth_of_sorts(world, (i,), carried(world, (z,), stakes)), worth)
                many += 1
        self.assertGreater(many, 50)


class WorthsTest(unittest.TestCase):
    """Points 95 and 113."""

    def fair_worlds(self):
        return [world for world in worlds() if world.fair]

    def test_more_looks_are_worth_more(self):
        source = random.Random(9720)
        for world in self.fair_worlds():
            stakes = random_stakes(source, len(world))
            worths = {lot: fraction(worth_of_sorts(world, lot, stakes)) for lot in LOTS}
            for lot, other in itertools.permutations(LOTS, 2):
                if set(lot) < set(other):
                    self.assertLessEqual(worths[lot], worths[other])
            self.assertLessEqual(max(worths.values()), fraction(knowing(world, stakes)))

    def test_a_drawn_look_is_worth_no_more(self):
        source, less = random.Random(9721), 0
        for seed in range(24):
            world = random_world(9722 + seed, (2, 3, 2), 1 + seed % 4, low=-(seed % 2))
            more = drawn_look(world, 1, Drawing(random_drawing(source, 3, 3)))
            for _ in range(4):
                stakes = random_stakes(source, len(world))
                one, two = [fraction(worth_of_sorts(more, (look,), stakes)) for look in (1, 3)]
                # In worlds that are not fair weights below 0 do not break this.
                self.assertLessEqual(two, one)
                on = random_stakes(source, 4)
                one, two = [worth_by_hand(pair_by_hand(more, (look,), (0, 2)), acts_of(on)) for look in (1, 3)]
                self.assertLessEqual(two, one)
                less += two < one
        self.assertGreater(less, 5)

    def test_sums_of_stakes(self):
        source = random.Random(9723)
        for world in self.fair_worlds():
            one, two = random_stakes(source, len(world)), random_stakes(source, len(world))
            for lot in LOTS[:4]:
                both = fraction(worth_of_sorts(world, lot, one + two))
                self.assertGreaterEqual(both, max(fraction(worth_of_sorts(world, lot, each)) for each in (one, two)))

    def test_two_looks_one_after_the_other(self):
        source, left_out = random.Random(9724), 0
        for seed in range(30):
            world = random_world(9750 + seed, (2, 3, 3), 1 + seed % 4, low=0)
            stakes = random_stakes(source, len(world))
            for i, j in itertools.permutations(range(3), 2):
                whole = Fraction(0)
                for answer in range(world.sizes[i]):
                    less = given_world(world, (i, answer))
                    kept = [s for s in range(len(world)) if world.sorts[s][i][answer] != (0, 1)]
                    acts = Stakes([[act[s] for s in kept] for act in stakes.acts])
                    left_out += len(kept) < len(world)
                    whole += fraction(world.single((i, answer))) * fraction(worth_of_sorts(less, (j,), acts))
                self.assertEqual(worth_of_sorts(world, tuple(sorted((i, j))), stakes), ratio(whole))
        self.assertGreater(left_out, 5)

    def test_ends_of_a_frame(self):
        source = random.Random(9725)
        for sights, number in list(many_pieces())[::2]:
            frame = frame_of(sights, number)
            for _ in range(3):
                stakes = Stakes([[ratio(max(act)), ratio(min(act))]
                                 for act in random_matrix(source, source.randint(1, 3), 2)])
                calls = [lambda world, look=look: worth_of_sorts(world, (look,), stakes) for look in frame.tilts.looks]
                for call in calls + [lambda world: knowing(world, stakes)]:
                    worths = [fraction(call(world)) for world in inner_worlds(frame)]
                    self.assertEqual(max(worths), fraction(call(frame.first_end())))
                    self.assertEqual(min(worths), fraction(call(frame.second_end())))


if __name__ == "__main__":
    unittest.main()
