"""Point 110 and the interface of hiddensorts/parting.py, and what hiddensorts/splitting.py does for it."""

import itertools
import random
import unittest
from fractions import Fraction

from hiddensorts import splitting
from hiddensorts.curves import Curve
from hiddensorts.drawings import Drawing, drawing_for, turns
from hiddensorts.errors import BadMatrix
from hiddensorts.fullness import is_full
from hiddensorts.parting import part_or_draw
from hiddensorts.stakes import Stakes, worth_by
from tests.shares import (fractions_of, pair_by_hand, product, random_drawing, random_matrix, ratios_of, worth_by_hand)
from tests.test_drawings import NO_MATRICES
from tests.tools import as_it_looks, fraction, random_world, ratio


def levelled(matrix, other):
    """The other matrix, one of its rows so changed that its columns have the sums of the matrix."""
    last = [sum(column) - sum(far) + far[-1] for column, far in zip(zip(*matrix), zip(*other))]
    return other[:-1] + [last]


class PartOrDrawTest(unittest.TestCase):

    def check(self, matrix, other):
        """Whether there is a drawing; what is returned shows it."""
        one, two = ratios_of(matrix), ratios_of(other)
        found = part_or_draw(one, [list(row) for row in two])
        if type(found) is Drawing:
            self.assertIs(turns(found, one, two), True)
            self.assertIs(turns(drawing_for(one, two), one, two), True)
            return True
        self.assertIs(type(found), Stakes)
        self.assertEqual((len(found), found.width), (len(other), len(matrix[0])))
        self.assertTrue(as_it_looks(found.acts))
        acts = fractions_of(found.acts)
        self.assertGreater(worth_by_hand(other, acts), worth_by_hand(matrix, acts))
        self.assertGreater(fraction(worth_by(two, found)), fraction(worth_by(one, found)))
        self.assertIsNone(drawing_for(one, two))
        return False

    def test_random_matrices(self):
        source, words = random.Random(9800), []
        for turn in range(260):
            many, end, width = [source.randint(1, 9 if turn % 5 == 0 else 5) for _ in range(3)]
            matrix = random_matrix(source, many, width, rank=None if turn % 2 else source.randint(1, 3))
            if turn % 13 == 0:
                matrix = [[Fraction(0)] * width for _ in range(many)]
            kind = turn % 4
            other = levelled(matrix, random_matrix(source, end, width, low=-1, high=1))
            if kind == 1:
                other = product(fractions_of(random_drawing(source, end, many, gaps=source.choice((0, 0.5)))), matrix)
            if kind == 2 and end > 1:
                # Just beyond what drawings reach, or just within.
                rows = fractions_of(random_drawing(source, end, many, gaps=0.6))
                column, step = source.randrange(many), Fraction(1, source.choice((2, 50)))
                rows[0][column] -= step
                rows[1][column] += step
                other = product(rows, matrix)
            words.append(self.check(matrix, other))
        self.assertGreater(min(words.count(True), words.count(False)), 60)

    def test_small_whole_matrices(self):
        words = []
        for one, two in itertools.product(itertools.product(range(-1, 3), repeat=4), repeat=2):
            if one[0] + one[2] == two[0] + two[2] and one[1] + one[3] == two[1] + two[3] and one[0] <= one[2]:
                words.append(self.check([[Fraction(k) for k in one[:2]], [Fraction(k) for k in one[2:]]],
                                        [[Fraction(k) for k in two[:2]], [Fraction(k) for k in two[2:]]]))
        self.assertGreater(min(words.count(True), words.count(False)), 100)

    def test_edges(self):
        self.assertEqual(part_or_draw([[1, 2]], [[1, 2]]), Drawing([[1]]))
        self.assertEqual(part_or_draw([[1, 2], [3, 4]], [[4, 6]]), Drawing([[1, 1]]))
        self.assertEqual(part_or_draw([[5]], [[5]]), Drawing([[1]]))
        self.assertTrue(self.check([[Fraction(4)]], [[Fraction(1)], [Fraction(3)]]))
        self.assertFalse(self.check([[Fraction(4)]], [[Fraction(-1)], [Fraction(5)]]))
        self.assertFalse(self.check([[Fraction(0)] * 2], [[Fraction(1)] * 2, [Fraction(-1)] * 2]))
        self.assertTrue(self.check([[Fraction(0)] * 2] * 3, [[Fraction(0)] * 2] * 2))
        self.assertFalse(self.check([[Fraction(1)] * 2] * 2, [[Fraction(2), Fraction(0)], [Fraction(0), Fraction(2)]]))

    def test_two_columns(self):
        # Of two sorts the curves decide, and two acts are enough.
        source, words = random.Random(9801), []
        for _ in range(80):
            tables = []
            for many in (source.randint(2, 4), source.randint(2, 4)):
                weights = [Fraction(source.randint(1, 4)) for _ in range(many)]
                weights = [weight / sum(weights) for weight in weights]
                tilts = [Fraction(source.randint(-3, 3)) for _ in range(many)]
                mean = sum(w * t for w, t in zip(weights, tilts))
                tables.append((weights, [tilt - mean for tilt in tilts]))
            one, two = [[[w, w * t] for w, t in zip(*table)] for table in tables]
            curves = [Curve([ratio(w) for w in table[0]], [ratio(t) for t in table[1]]) for table in tables]
            words.append(self.check(one, two))
            self.assertEqual(words[-1], curves[1].is_below(curves[0]))
            if not words[-1]:
                self.assertTrue(self.two_acts_are_enough(one, two))
        self.assertGreater(min(words.count(True), words.count(False)), 20)

    def two_acts_are_enough(self, one, two):
        """Whether two acts are worth more by the second matrix of two columns: bets at the tilts of the first."""
        for w, wt in one:
            price = wt / w
            acts = [[-price, Fraction(1)], [Fraction(0), Fraction(0)]]
            if worth_by_hand(two, acts) > worth_by_hand(one, acts):
                return True
        return False

    def test_full_lots_show_what_is_drawn(self):
        source, words = random.Random(9802), []
        for seed in range(40):
            world = random_world(9810 + seed, (3, 2, 4), 1 + seed % 4, low=seed % 2)
            if not is_full(world, (2,)):
                continue
            for x, y in ((0, 1), (1, 0)):
                one, two = [pair_by_hand(world, (at,), (2,)) for at in (x, y)]
                sorts = [[[fraction(f) * fraction(p) for p, f in zip(world.chances, row)]
                          for row in zip(*[sort[at] for sort in world.sorts])] for at in (x, y)]
                words.append(self.check(one, two))
                self.assertEqual(words[-1], self.check(*sorts))
                for _ in range(5):
                    acts = random_matrix(source, 3, 4)
                    if words[-1]:
                        self.assertLessEqual(worth_by_hand(two, acts), worth_by_hand(one, acts))
        self.assertGreater(min(words.count(True), words.count(False)), 5)

    def test_nine_rows_and_columns(self):
        source = random.Random(9803)
        for rank in (2, 3, 4, 6, 9):
            matrix = random_matrix(source, 9, 9, low=0, rank=rank)
            rows = fractions_of(random_drawing(source, 9, 9))
            self.assertTrue(self.check(matrix, product(rows, matrix)))
            rows[0][0] -= 2
            rows[1][0] += 2
            self.check(matrix, product(rows, matrix))

    def test_large_numbers(self):
        source = random.Random(9804)
        matrix = [[Fraction(source.randint(0, 10 ** 30), source.randint(1, 10 ** 6)) for _ in range(3)]
                  for _ in range(6)]
        rows = fractions_of(random_drawing(source, 5, 6))
        self.assertTrue(self.check(matrix, product(rows, matrix)))
        other = levelled(matrix, [[entry * 2 for entry in row] for row in matrix])
        self.assertFalse(self.check(matrix, other))

    def test_refuses(self):
        good = [[1, 2], [3, 4]]
        for value in NO_MATRICES + [[[1]], [[1, 2, 3]], [[4], [6]]]:
            with self.assertRaises(BadMatrix):
                part_or_draw(value, good)
            with self.assertRaises(BadMatrix):
                part_or_draw(good, value)
        for other in ([[4, 5]], [[1, 2], [3, 5]], [[5, 6]], [[1, 2], [3, (41, 10)]]):
            with self.assertRaises(BadMatrix):
                part_or_draw(good, other)
        self.assertEqual(part_or_draw([[0]], [[0]]), Drawing([[1]]))

    def test_arguments_stay(self):
        one, two = [[1, [1, 2]], [0, [1, 2]]], [[[1, 2], 1], [[1, 2], 0]]
        first = part_or_draw(one, two)
        self.assertEqual((one, two), ([[1, [1, 2]], [0, [1, 2]]], [[[1, 2], 1], [[1, 2], 0]]))
        self.assertEqual(part_or_draw(one, two), first)


class SureChoiceTest(unittest.TestCase):
    """The choice by the least names, which follows when the quick one has had its turns."""

    def test_it_finds_the_same_words(self):
        source, words = random.Random(9820), []
        before = splitting.QUICK
        try:
            for turn in range(60):
                matrix = random_matrix(source, source.randint(2, 6), 4, low=0, rank=source.randint(1, 4))
                other = levelled(matrix, random_matrix(source, 3, 4, low=0, high=2))
                if turn % 2:
                    other = product(fractions_of(random_drawing(source, 4, len(matrix), gaps=0)), matrix)
                splitting.QUICK = before
                quick = PartOrDrawTest.check(self, matrix, other)
                splitting.QUICK = 0
                self.assertEqual(PartOrDrawTest.check(self, matrix, other), quick)
                words.append(quick)
        finally:
            splitting.QUICK = before
        self.assertEqual(set(words), {True, False})


if __name__ == "__main__":
    unittest.main()
