"""The interface of hiddensorts/matrices.py."""

import random
import unittest
from fractions import Fraction

from hiddensorts.errors import BadMatrix
from hiddensorts.matrices import first_rows, inverse, multiply, positive, rank, turned
from tests.tools import NO_NUMBERS, as_it_looks, fraction, ratio

NO_MATRICES = [None, 3, "1", [], (), [[]], [[], []], [1, 2], [[1, 2], [1]], [[1], 2], [(1, 2), 1], [[1, 2], None],
               [[None]], [[1, "2"]], {0: [1]}, [{0: 1}], [[1], []]]


def by_hand(m):
    """Indexes of the rows that raise the rank, by elimination in fractions."""
    found, kept = [], []
    for index, row in enumerate(m):
        rest = [fraction(entry) for entry in row]
        for pivot, chosen in kept:
            factor = rest[pivot] / chosen[pivot]
            rest = [a - factor * b for a, b in zip(rest, chosen)]
        places = [place for place, entry in enumerate(rest) if entry]
        if places:
            found.append(index)
            kept.append((places[0], rest))
    return tuple(found)


def random_matrix(source, rows, columns, *, low=-3, high=3, bottoms=3):
    return [[(source.randint(low, high), source.randint(1, bottoms)) for _ in range(columns)] for _ in range(rows)]


def unit(many):
    return tuple(tuple((1, 1) if i == j else (0, 1) for j in range(many)) for i in range(many))


class MatricesTest(unittest.TestCase):

    def test_what_is_no_matrix(self):
        for value in NO_MATRICES + [[[number]] for number in NO_NUMBERS]:
            for call in (first_rows, rank, turned, inverse, positive):
                with self.assertRaises(BadMatrix):
                    call(value)
            for pair in ((value, [[1]]), ([[1]], value)):
                with self.assertRaises(BadMatrix):
                    multiply(*pair)

    def test_first_rows(self):
        self.assertEqual(first_rows([[0, 0], [2, 4], [1, 2], [0, (1, 3)], [5, 5]]), (1, 3))
        self.assertEqual(first_rows(((0, 0),)), ())
        self.assertEqual(first_rows([[0, 1], [1, 0], [1, 1]]), (0, 1))
        self.assertEqual([rank([[0]]), rank([[7]]), rank([[1, 2], [2, 4]]), rank([[1, 2], [2, 5]])], [0, 1, 1, 2])
        self.assertIs(type(rank([[7]])), int)

    def test_first_rows_of_random_ones(self):
        source = random.Random(3)
        for _ in range(150):
            m = random_matrix(source, source.randint(1, 6), source.randint(1, 6), low=-1, high=1)
            if len(m) > 2:
                m[2] = [ratio(fraction(a) + 2 * fraction(b)) for a, b in zip(m[0], m[1])]
            self.assertEqual(first_rows(m), by_hand(m))
            self.assertEqual(rank(m), len(by_hand(m)))
            self.assertEqual(rank(turned(m)), rank(m))

    def test_turned(self):
        m = [[1, (2, 4), 0], [3, 4, [-6, 4]]]
        self.assertEqual(turned(m), (((1, 1), (3, 1)), ((1, 2), (4, 1)), ((0, 1), (-3, 2))))
        self.assertTrue(as_it_looks(turned(m)))
        self.assertEqual(m, [[1, (2, 4), 0], [3, 4, [-6, 4]]])

    def test_multiply(self):
        self.assertEqual(multiply([[1, (1, 2)]], [[2], [4]]), (((4, 1),),))
        source = random.Random(4)
        for _ in range(40):
            a, b, c = [source.randint(1, 4) for _ in range(3)]
            m, n = random_matrix(source, a, b), random_matrix(source, b, c)
            product = tuple(tuple(ratio(sum(fraction(m[i][k]) * fraction(n[k][j]) for k in range(b)))
                                  for j in range(c)) for i in range(a))
            self.assertEqual(multiply(m, n), product)
            self.assertTrue(as_it_looks(multiply(m, n)))

    def test_multiply_refuses_other_forms(self):
        for pair in (([[1, 2]], [[1, 2]]), ([[1]], [[1], [2]])):
            with self.assertRaises(BadMatrix):
                multiply(*pair)

    def test_inverse(self):
        self.assertEqual(inverse([[2]]), (((1, 2),),))
        self.assertEqual(inverse([[0, 2], [(1, 3), 0]]), (((0, 1), (3, 1)), ((1, 2), (0, 1))))
        self.assertEqual(inverse([[-1, 0], [0, 1]]), (((-1, 1), (0, 1)), ((0, 1), (1, 1))))
        for m in ([[0]], [[1, 2], [2, 4]], [[0, 0], [1, 1]], [[1, 1, 0], [0, 1, 1], [1, 2, 1]]):
            self.assertIsNone(inverse(m))
        for m in ([[1, 2]], [[1], [2]]):
            with self.assertRaises(BadMatrix):
                inverse(m)

    def test_inverse_of_random_ones(self):
        source = random.Random(5)
        seen = {True: 0, False: 0}
        for _ in range(120):
            many = source.randint(1, 6)
            m = random_matrix(source, many, many, low=-1, high=1)
            found = inverse(m)
            seen[found is None] += 1
            self.assertEqual(found is None, rank(m) < many)
            if found is not None:
                self.assertEqual(multiply(m, found), unit(many))
                self.assertEqual(multiply(found, m), unit(many))
                self.assertTrue(as_it_looks(found))
        self.assertGreater(min(seen.values()), 10)

    def test_positive(self):
        for m in ([[0]], [[(1, 3)]], [[1, 1], [1, 1]], [[2, -1], [-1, 2]], [[0, 0], [0, 1]], [[1, 0], [0, 0]],
                  [[0, 0, 0], [0, 1, 1], [0, 1, 1]], [[(1, 3), (1, 2)], [(1, 2), (3, 4)]]):
            self.assertIs(positive(m), True, m)
        for m in ([[-1]], [[0, 1], [1, 0]], [[0, 1], [1, 5]], [[1, 2], [2, 1]], [[1, 0], [0, (-1, 9)]],
                  [[1, 1, 0], [1, 1, 1], [0, 1, 1]], [[(1, 3), (1, 2)], [(1, 2), (3, 5)]], [[5, 1], [1, 0]]):
            self.assertIs(positive(m), False, m)
        for m in ([[1, 2]], [[1], [2]], [[1, 2], [3, 1]]):
            with self.assertRaises(BadMatrix):
                positive(m)

    def test_positive_of_random_ones(self):
        source = random.Random(6)
        words = []
        for _ in range(150):
            many = source.randint(1, 4)
            m = random_matrix(source, many, source.randint(1, many), low=-2, high=2)
            square = [list(row) for row in multiply(m, turned(m))]
            self.assertIs(positive(square), True)
            place = source.randrange(many)
            square[place][place] = ratio(fraction(square[place][place]) - Fraction(1, source.randint(1, 4)))
            words.append(positive(square))
            self.assertIs(words[-1], self.by_minors(square))
        self.assertGreater(words.count(False), 10)
        self.assertGreater(words.count(True), 10)

    def by_minors(self, m):
        """Positive exactly if no minor of the same rows and columns is below 0."""
        many = len(m)
        for mask in range(1, 2 ** many):
            places = [place for place in range(many) if mask >> place & 1]
            if self.determinant([[fraction(m[i][j]) for j in places] for i in places]) < 0:
                return False
        return True

    def determinant(self, m):
        if not m:
            return Fraction(1)
        return sum((-1) ** j * m[0][j] * self.determinant([row[:j] + row[j + 1:] for row in m[1:]])
                   for j in range(len(m)))

    def test_the_most(self):
        many = 100
        m = [[2 if i == j else (1 if abs(i - j) == 1 else 0) for j in range(many)] for i in range(many)]
        found = inverse(m)
        self.assertEqual(multiply(m, found), unit(many))
        self.assertEqual(rank(m), many)
        self.assertIs(positive(m), True)
        source = random.Random(7)
        row = [(source.randint(-10 ** 30, 10 ** 30), source.randint(1, 10 ** 30)) for _ in range(many)]
        self.assertEqual(first_rows([row, [0] * many, row, [0] + row[1:]]), (0, 3))


if __name__ == "__main__":
    unittest.main()
