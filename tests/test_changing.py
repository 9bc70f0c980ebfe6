"""Points 126 to 128 and the interface of hiddensorts/changing.py."""

import itertools
import random
import unittest
from fractions import Fraction

from hiddensorts.changing import apart_number, change_between, changed, two_of
from hiddensorts.errors import BadChange, BadLook, BadMatrix, IsTold, NotFair, NotOf, Unfounded
from hiddensorts.evens import EvenWeb
from hiddensorts.founding import found, found_ringed, is_of
from hiddensorts.matrices import rank
from hiddensorts.sewing import told_matrix
from hiddensorts.sights import Sights
from hiddensorts.worlds import World
from tests.evens import (RINGED, SIDED, even_world, even_worlds, four_answers, holds, inverse_by_hand, is_world_of,
                         made_matrix, sewn_web, span_web, spread_world)
from tests.shares import across, fractions_of, product, rank_by_hand, ratios_of
from tests.test_drawings import NO_MATRICES
from tests.test_frames import RING
from tests.tools import FAR, HALF, NO_INTEGERS, fraction, random_chances, random_world, ratio


def random_change(source, world):
    """A matrix whose columns sum to 1, invertible, that leaves the chances above 0."""
    many = len(world)
    while True:
        matrix = [[int(a == b) + Fraction(source.randint(-2, 2), 7) for b in range(many)] for a in range(many)]
        matrix[-1] = [1 - sum(column[:-1]) for column in across(matrix)]
        if rank_by_hand(matrix) < many:
            continue
        back = product(inverse_by_hand(matrix), [[fraction(p)] for p in world.chances])
        if min(row[0] for row in back) > 0:
            return matrix


def changed_by_hand(web, world, matrix):
    """Point 127, word by word."""
    many = range(len(world))
    p = [fraction(chance) for chance in world.chances]
    new = [row[0] for row in product(inverse_by_hand(matrix), [[chance] for chance in p])]
    c = across(inverse_by_hand(matrix))
    sorts = [[] for _ in many]
    for look, size in enumerate(world.sizes):
        f = [[fraction(sort[look][x]) for x in range(size)] for sort in world.sorts]
        for t in many:
            if look in web.sides[0]:
                sorts[t].append([ratio(sum(f[s][x] * matrix[s][t] for s in many)) for x in range(size)])
            else:
                sorts[t].append([ratio(sum(f[s][x] * p[s] * c[s][t] for s in many) / new[t]) for x in range(size)])
    return World([ratio(chance) for chance in new], sorts)


class ChangedTest(unittest.TestCase):

    def test_sided_webs(self):
        source = random.Random(11600)
        for world, web in even_worlds(SIDED, count=2):
            for _ in range(2):
                matrix = random_change(source, world)
                new = changed(web, world, [list(row) for row in ratios_of(matrix)])
                self.assertEqual(new, changed_by_hand(web, world, matrix))
                self.assertTrue(is_world_of(new, web.sights, web.rank))
                self.assertEqual(change_between(web, world, new), ratios_of(matrix))
                back = change_between(web, new, world)
                self.assertEqual(back, ratios_of(inverse_by_hand(matrix)))
                self.assertEqual(changed(web, new, back), world)

    def test_any_two_worlds(self):
        source = random.Random(11601)
        for world, web in even_worlds(SIDED + RINGED):
            if web.ringed:
                other = found_ringed(web)
            else:
                other = found(web, random_chances(source, web.rank))
            for one, two in ((world, other), (other, world), (world, world)):
                matrix = change_between(web, one, two)
                self.assertEqual(changed(web, one, matrix), two)
                if one == two:
                    self.assertEqual(matrix, ratios_of([[int(a == b) for b in range(len(world))]
                                                        for a in range(len(world))]))

    def test_renamed_sorts(self):
        for world, web in even_worlds(SIDED[:3] + RINGED[:3], sorts=(3,)):
            for order in itertools.permutations(range(3)):
                matrix = [[1 if order[t] == s else 0 for t in range(3)] for s in range(3)]
                self.assertEqual(changed(web, world, matrix), world.renamed(order))
                self.assertEqual(change_between(web, world, world.renamed(order)), ratios_of(matrix))

    def test_ringed_webs_allow_fewer_changes(self):
        source, refused = random.Random(11602), 0
        for world, web in even_worlds(RINGED, sorts=(2, 3)):
            matrix = random_change(source, world)
            p = [fraction(chance) for chance in world.chances]
            new = [row[0] for row in product(inverse_by_hand(matrix), [[chance] for chance in p])]
            many = range(len(world))
            form = product(product(matrix, [[new[a] if a == b else 0 for b in many] for a in many]), across(matrix))
            good = form == [[p[a] if a == b else 0 for b in many] for a in many]
            if good:
                continue
            with self.assertRaises(BadChange):
                changed(web, world, ratios_of(matrix))
            refused += 1
        self.assertGreater(refused, 5)

    def test_examples(self):
        sort, other = [(3, 4), (1, 4)], [(1, 4), (3, 4)]
        world = World([(1, 2), (1, 2)], [[sort, sort], [other, other]])
        web = EvenWeb(world.sights_of([(0, 1)]))
        new = changed(web, world, [[(3, 2), (-1, 2)], [(-1, 2), (3, 2)]])
        self.assertEqual([new.chances, new.sorts[0], change_between(web, world, new)],
                         [((1, 2), (1, 2)), (((1, 1), (0, 1)), ((5, 8), (3, 8))),
                          (((3, 2), (-1, 2)), ((-1, 2), (3, 2)))])

    def test_refuses(self):
        world, web = even_world(11610, SIDED[1], 2)
        stranger = random_world(11611, world.sizes, 2, low=1)
        good = [[1, 0], [0, 1]]
        for value in NO_MATRICES + [good]:
            with self.assertRaises(NotOf):
                changed(web, stranger, value)
        for value in NO_MATRICES:
            with self.assertRaises(BadMatrix):
                changed(web, world, value)
        p = fraction(world.chances[0])
        for value in ([[1]], [[1, 0]], [[1], [0]], [[1, 0, 0], [0, 1, 0], [0, 0, 1]], [[1, 0], [1, 1]],
                      [[2, 0], [0, 1]], [[(1, 2), (1, 2)], [(1, 2), (1, 2)]], [[1, 1], [0, 0]], [[-1, 0], [2, 1]],
                      # One of the new chances is 0.
                      [[1, ratio(p)], [0, ratio(1 - p)]], [[ratio(p), 1], [ratio(1 - p), 0]],
                      # And one below 0.
                      [[1, ratio(p / 2 + Fraction(1, 2))], [0, ratio(Fraction(1, 2) - p / 2)]][::-1]):
            with self.assertRaises(BadChange):
                changed(web, world, value)
        self.assertEqual(changed(web, world, good), world)
        for pair in ((stranger, world), (world, stranger), (stranger, stranger)):
            with self.assertRaises(NotOf):
                change_between(web, *pair)

    def test_refuses_in_a_ring(self):
        web = EvenWeb(Sights([HALF] * 3, seen=RING))
        world = found_ringed(web)
        with self.assertRaises(BadChange):
            changed(web, world, [[(3, 2), (-1, 2)], [(-1, 2), (3, 2)]])
        self.assertEqual(changed(web, world, [[0, 1], [1, 0]]), world.renamed([1, 0]))

    def test_arguments_stay(self):
        world, web = even_world(11612, SIDED[0], 2)
        matrix = [[[3, 2], [-1, 2]], [[-1, 2], [3, 2]]]
        try:
            changed(web, world, matrix)
        except BadChange:
            pass
        self.assertEqual(matrix, [[[3, 2], [-1, 2]], [[-1, 2], [3, 2]]])


class TwoOfTest(unittest.TestCase):

    def test_unlike_tables_where_none_is_told(self):
        many = 0
        for _, web in even_worlds(SIDED + RINGED[:2]):
            for look, other in itertools.product(range(len(web.sights.sizes)), repeat=2):
                if told_matrix(web, look, other) is not None:
                    with self.assertRaises(IsTold):
                        two_of(web, look, other)
                    continue
                found_two = two_of(web, look, other)
                self.assertTrue(type(found_two) is tuple and len(found_two) == 2)
                self.assertTrue(all(is_world_of(each, web.sights, web.rank) for each in found_two))
                self.assertNotEqual(*[made_matrix(each, look, other) for each in found_two])
                many += 1
        self.assertGreater(many, 50)

    def test_refuses(self):
        web = EvenWeb(Sights([HALF] * 3, seen=[((0, 1), FAR), ((1, 2), FAR)]))
        for look in NO_INTEGERS + [3, -1]:
            for pair in ((look, 0), (0, look)):
                with self.assertRaises(BadLook):
                    two_of(web, *pair)
        for bad in (sewn_web(), span_web()):
            with self.assertRaises(IsTold):
                two_of(bad, 0, 1)
            for pair in ((0, 0), (1, 1), (1, 2) if bad.sides[0] == (0,) else (0, 2)):
                with self.assertRaises(Unfounded) as caught:
                    two_of(bad, *pair)
                self.assertTrue(holds(bad, caught.exception.reason))
        for look, other in itertools.product(range(3), repeat=2):
            with self.assertRaises(IsTold):
                two_of(EvenWeb(Sights([HALF] * 3, seen=RING)), look, other)


class ApartNumberTest(unittest.TestCase):

    def by_hand(self, matrix):
        places = [(a, b) for a, row in enumerate(matrix) for b, entry in enumerate(row) if entry > 0]
        found = 0
        for mask in range(2 ** len(places)):
            chosen = [place for k, place in enumerate(places) if mask >> k & 1]
            if len(chosen) > found and all(matrix[a][d] == 0 or matrix[c][b] == 0
                                           for (a, b), (c, d) in itertools.combinations(chosen, 2)):
                found = len(chosen)
        return found

    def test_by_definition(self):
        source, found = random.Random(11700), []
        for _ in range(60):
            many, width = source.randint(1, 4), source.randint(1, 4)
            matrix = [[source.choice((0, 0, 1, Fraction(1, 3))) for _ in range(width)] for _ in range(many)]
            if sum(1 for row in matrix for entry in row if entry) > 11:
                continue
            found.append(apart_number([[ratio(entry) for entry in row] for row in matrix]))
            self.assertEqual(found[-1], self.by_hand(matrix))
            self.assertIs(type(found[-1]), int)
        self.assertEqual(set(found), {0, 1, 2, 3, 4})

    def test_six_rows_and_columns(self):
        one = [[1 if a == b else 0 for b in range(6)] for a in range(6)]
        self.assertEqual(apart_number(one), 6)
        self.assertEqual(apart_number([[1] * 6] * 6), 1)
        self.assertEqual(apart_number([[1 if a <= b else 0 for b in range(6)] for a in range(6)]), 6)
        self.assertEqual(apart_number([[0 if a == b else 1 for b in range(6)] for a in range(6)]), 3)
        ring = [[1 if (b - a) % 6 in (0, 1) else 0 for b in range(6)] for a in range(6)]
        self.assertEqual((apart_number(ring), rank(ring)), (6, 5))

    def test_examples(self):
        ring = [[1, 1, 0, 0], [0, 1, 1, 0], [0, 0, 1, 1], [1, 0, 0, 1]]
        self.assertEqual([rank(ring), apart_number(ring)], [3, 4])
        self.assertEqual(apart_number(told_matrix(four_answers(), 0, 1)), 4)

    def test_fair_worlds_have_as_many_sorts(self):
        # Point 128.
        equal = 0
        for seed in range(60):
            many = 1 + seed % 5
            world = random_world(11710 + seed, (5, 6), many, low=-1)
            sorts = [[[max(fraction(f), Fraction(0)) for f in look] for look in sort] for sort in world.sorts]
            if not all(sum(look) for sort in sorts for look in sort):
                continue
            world = World(world.chances, [[[ratio(f / sum(look)) for f in look] for look in sort] for sort in sorts])
            number = apart_number(made_matrix(world, 0, 1))
            self.assertLessEqual(number, many)
            equal += number == many
        self.assertGreater(equal, 3)

    def test_refuses(self):
        for value in NO_MATRICES:
            with self.assertRaises(BadMatrix):
                apart_number(value)
        for value in ([[-1]], [[1, 0], [0, (-1, 7)]]):
            with self.assertRaises(NotFair):
                apart_number(value)
        with self.assertRaises(BadMatrix):
            apart_number([[-1], [1, 2]])
        self.assertEqual(apart_number([[0]]), 0)


class SpreadTest(unittest.TestCase):

    def test_the_worlds_of_the_tests(self):
        for world, web in even_worlds(SIDED[:2], sorts=(2, 3)):
            spread = spread_world(world, Fraction(1, 3), web.sides)
            self.assertTrue(is_of(web, spread))
            p = [fraction(chance) for chance in world.chances]
            many = range(len(p))
            wanted = [[Fraction(4, 3) * int(s == t) - Fraction(1, 3) * p[s] for t in many] for s in many]
            self.assertEqual(fractions_of(change_between(web, world, spread)), wanted)


if __name__ == "__main__":
    unittest.main()
