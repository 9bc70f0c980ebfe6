"""Points 77 and 79 to 81 and the interface of hiddensorts/opening.py and hiddensorts/bending.py."""

import itertools
import random
import unittest
from fractions import Fraction

from hiddensorts.bending import is_fair, squares_of, turned_spots, world_of
from hiddensorts.errors import BadLot, BadSpot, NeedsRoot, OtherPiece
from hiddensorts.leans import Leans
from hiddensorts.opening import opened, part_by
from hiddensorts.parts import part
from hiddensorts.ratios import root_of
from hiddensorts.sights import Sights
from hiddensorts.standing import stand
from hiddensorts.tables import Table
from tests.oracles import is_piece_world, numbers_of
from tests.test_frames import piece_spots
from tests.test_leans import FIVE, ROW, THIRD, by_base, pieces_with_threes
from tests.threes import entry_by_definition, leaned_entries, leaned_sights, part_by_definition
from tests.tools import FAR, HALF, NO_LISTS, as_it_looks, fraction, ratio, rows


def with_loners():
    """Leans of the piece (0, 1, 2) beside a sided piece (3, 4) and a loner."""
    three = leaned_entries([HALF] * 3, FIVE, Fraction(1, 6), Fraction(1, 5), (0, 1, 2))
    return Leans(Sights([HALF] * 6, seen=[((0, 1, 2), three), ((3, 4), FAR)]), 0)


def askings(looks, most):
    return [asking for many in range(1, most + 1) for asking in itertools.combinations_with_replacement(looks, many)]


class OpenedTest(unittest.TestCase):

    def test_what_the_world_makes(self):
        source = random.Random(7500)
        many = 0
        for world, sights, number in pieces_with_threes():
            leans = Leans(sights, number)
            for asking in source.sample(askings(leans.looks, 4), 8):
                found = opened(leans, list(asking))
                self.assertIs(type(found), Table)
                self.assertEqual(found, world.made(asking))
                many += 1
        self.assertGreater(many, 100)

    def test_seen_lots_are_as_opened(self):
        for _, sights, number in pieces_with_threes():
            leans = Leans(sights, number)
            for lot in sights.lots:
                if set(lot) <= set(leans.looks):
                    self.assertEqual(opened(leans, lot), sights.table(lot))
                    self.assertEqual(opened(leans, lot).left_to(lot[:2]), opened(leans, lot[:2]))
            for look in leans.looks:
                self.assertEqual(opened(leans, (look,)).entries, sights.singles[look])
                self.assertEqual(opened(leans, (look, look)), leans.tilts.told_table(look, look))

    def test_by_definition(self):
        leans = Leans(leaned_sights([HALF, [(1, 4), (1, 4), (1, 2)], HALF], [[1, -1], [0, -2, 1], [1, -1]],
                                    Fraction(1, 5), Fraction(-1, 9), [(0, 1, 2)]), 0)
        for asking in [(0, 1, 2), (1, 1), (0, 1, 1, 2), (1, 1, 1), (0, 0, 2, 2)]:
            table = opened(leans, asking)
            for row, entry in zip(rows(asking, leans.sights.sizes), table.entries):
                self.assertEqual(fraction(entry), entry_by_definition(leans, list(zip(asking, row))))

    def test_parts_of_opened_tables(self):
        for _, sights, number in list(pieces_with_threes())[::4]:
            leans = Leans(sights, number)
            asking = tuple(sorted(leans.looks[:3] + leans.looks[1:2]))
            table = opened(leans, asking)
            for row in rows(asking, sights.sizes)[::3]:
                self.assertEqual(part_by(leans, list(zip(asking, row))), part(table, row))

    def test_example(self):
        leans = Leans(Sights([THIRD] * 3, seen=[((0, 1, 2), ROW)]), 0)
        part_found = part_by(leans, [(2, 0), (0, 0), (1, 0)])
        self.assertEqual([opened(leans, (0, 0)).entries, part_found, world_of(leans).chances],
                         [((1, 6), (1, 6), (1, 6), (1, 2)), (1, 4), ((1, 3), (2, 3))])

    def test_refuses(self):
        leans = with_loners()
        for lot, place in ((None, -1), ("0", -1), ([6], 0), ([0, 6], 1), ([1, 0], 1), ([True], 0), ([3, 9], 1),
                           ([], -1), ((), -1)):
            with self.assertRaises(BadLot) as caught:
                opened(leans, lot)
            self.assertEqual(caught.exception.place, place)
        for lot in ((3,), (0, 3), (5,), (0, 1, 5), [3, 4]):
            with self.assertRaises(OtherPiece):
                opened(leans, lot)

    def test_a_further_lot_that_is_not_as_opened(self):
        leans = Leans(leaned_sights([HALF] * 4, FIVE, Fraction(1, 6), Fraction(1, 5), [(0, 1, 2), (2, 3)]), 0)
        table = opened(leans, (0, 1, 3))
        self.assertEqual(stand(leans.sights.adding((0, 1, 3), table.entries)), stand(leans.sights))
        for lot in ((0, 1, 3), (0, 3)):
            other = leaned_entries([HALF] * 4, FIVE, Fraction(1, 6), Fraction(1, 4), lot)
            if lot == (0, 3):
                other = leaned_entries([HALF] * 4, FIVE, Fraction(1, 7), 0, lot)
            self.assertEqual(stand(leans.sights.adding(lot, other))[0], "none")


class PartByTest(unittest.TestCase):

    def test_by_definition_in_any_order(self):
        source = random.Random(7501)
        for _, sights, number in list(pieces_with_threes())[::2]:
            leans = Leans(sights, number)
            spots = piece_spots(leans.tilts)
            for many in range(6):
                chosen = [source.choice(spots) for _ in range(many)]
                found = part_by(leans, chosen)
                self.assertEqual(found, ratio(part_by_definition(leans, chosen)))
                self.assertTrue(as_it_looks(found))
                source.shuffle(chosen)
                self.assertEqual(part_by(leans, tuple(list(spot) for spot in chosen)), found)

    def test_few_spots(self):
        leans = with_loners()
        self.assertEqual([part_by(leans, []), part_by(leans, ()), part_by(leans, [(0, 1)])], [(1, 1), (1, 1), (0, 1)])
        self.assertEqual(part_by(leans, [(0, 0), (0, 0)]), leans.link((0, 0), (0, 0)))

    def test_refuses(self):
        leans = with_loners()
        for value in NO_LISTS:
            with self.assertRaises(BadSpot):
                part_by(leans, value)
        for spots, error in (([None], BadSpot), ([(0, 0), (6, 0)], BadSpot), ([(3, 0)], OtherPiece),
                             ([(0, 0), (5, 1)], OtherPiece), ([(3, 0), None], OtherPiece), ([None, (3, 0)], BadSpot),
                             ([(0, 0), (1, 2), (3, 0)], BadSpot)):
            with self.assertRaises(error):
                part_by(leans, spots)


class BendingTest(unittest.TestCase):

    def test_fair_exactly_without_bends_below_0(self):
        words = []
        for world, sights, number in pieces_with_threes():
            leans = Leans(sights, number)
            turned = [x for x in piece_spots(leans.tilts) if numbers_of(world, x)[2] < 0]
            self.assertEqual(turned_spots(leans), turned)
            fair = all(fraction(chance) >= 0 for sort in world.sorts for look in leans.looks for chance in sort[look])
            self.assertIs(is_fair(leans), fair)
            words.append(fair)
        self.assertEqual(set(words), {True, False})

    def test_a_bend_of_0_is_fair(self):
        # Answer 0 of look 0 is met in sort 1 alone, so its bend is 0.
        leans = self.with_bend_0()
        self.assertEqual((leans.bend((0, 0)), turned_spots(leans), is_fair(leans)), ((0, 1), [], True))

    def with_bend_0(self):
        # Links 1/4 of vectors 1, -1 and leans b: the bend is 1 + b - 1/4 for answer 0 and 1 - b - 1/4 for answer 1.
        return Leans(leaned_sights([HALF] * 3, FIVE, Fraction(1, 4), Fraction(-3, 4), [(0, 1, 2)]), 0)

    def test_covs_given_a_spot(self):
        # In opened tables cov(y, z) given x is bend(x) cov(y, z), whatever the sign of the bend.
        many = 0
        for _, sights, number in pieces_with_threes():
            leans = Leans(sights, number)
            for looks in itertools.permutations(leans.looks, 3):
                x, y, z = [(look, 0) for look in looks]
                table = opened(leans, sorted(looks)).given(x)
                other = opened(leans, sorted(looks[1:]))
                self.assertEqual(self.cov(table, y, z), fraction(leans.bend(x)) * self.cov(other, y, z))
                many += 1
        self.assertGreater(many, 100)

    def cov(self, table, y, z):
        pair = sorted([y, z])
        found = fraction(table.left_to((pair[0][0], pair[1][0])).at((pair[0][1], pair[1][1])))
        return found - fraction(table.left_to((y[0],)).at((y[1],))) * fraction(table.left_to((z[0],)).at((z[1],)))

    def test_squares(self):
        for _, sights, number in pieces_with_threes():
            leans = Leans(sights, number)
            balance, own = fraction(leans.balance()), fraction(leans.link(leans.tilts.base, leans.tilts.base))
            found = squares_of(leans)
            self.assertEqual(found, (ratio(1 - 4 * balance), ratio(balance * own)))
            self.assertTrue(as_it_looks(found))
            # These sights come from worlds in ratios, so both are squares.
            self.assertTrue(all(root_of(number) is not None for number in found))

    def test_world_of(self):
        for world, sights, number in pieces_with_threes():
            leans = Leans(sights, number)
            found = world_of(leans)
            self.assertTrue(is_piece_world(found, sights, number, leans.tilts.base))
            world = by_base(world, leans.tilts.base)
            self.assertEqual(found.chances, world.chances)
            for look in leans.looks:
                self.assertEqual([sort[look] for sort in found.sorts], [sort[look] for sort in world.sorts])
            for look in set(range(len(sights.sizes))) - set(leans.looks):
                self.assertTrue(found.sorts[0][look] == found.sorts[1][look] == sights.singles[look])
            for lot in sights.lots:
                if set(lot) & set(leans.looks):
                    self.assertEqual(found.made(lot), sights.table(lot))
            self.assertEqual(found.fair, is_fair(leans))

    def test_leans_of_both_signs(self):
        for skew, chance in ((Fraction(3, 4), Fraction(1, 5)), (Fraction(-3, 4), Fraction(4, 5)), (0, Fraction(1, 2))):
            leans = Leans(leaned_sights([HALF] * 3, FIVE, Fraction(1, 4), skew, [(0, 1, 2)]), 0)
            self.assertEqual(world_of(leans).chances, (ratio(chance), ratio(1 - chance)))

    def test_needed_roots(self):
        # 1 - 4 balance is skew^2 / (4 share + skew^2), balance told(x0, x0) is share^2 / (4 share + skew^2).
        for share, skew, place in ((Fraction(1, 5), Fraction(1, 7), 0), (Fraction(1, 5), 0, 1),
                                   (Fraction(1, 4), 0, None), (Fraction(1, 4), Fraction(3, 4), None),
                                   (Fraction(1, 6), Fraction(1, 6), None)):
            leans = Leans(leaned_sights([HALF] * 3, FIVE, share, skew, [(0, 1, 2)]), 0)
            whole = 4 * share + Fraction(skew) ** 2
            squares = (ratio(Fraction(skew) ** 2 / whole), ratio(share ** 2 / whole))
            self.assertEqual(squares_of(leans), squares)
            roots = [root_of(number) for number in squares]
            if None not in roots:
                self.assertIsNone(place)
                self.assertEqual(len(world_of(leans)), 2)
                continue
            self.assertEqual(roots.index(None), place)
            with self.assertRaises(NeedsRoot) as caught:
                world_of(leans)
            self.assertEqual(caught.exception.number, squares[place])
            self.assertIs(is_fair(leans), True)

    def test_returned_lists_are_fresh(self):
        leans = Leans(leaned_sights([HALF] * 3, FIVE, Fraction(1, 4), Fraction(-9, 10), [(0, 1, 2)]), 0)
        first = turned_spots(leans)
        self.assertIs(type(first), list)
        self.assertEqual(first, [(0, 0), (1, 0), (2, 0)])
        self.assertIs(is_fair(leans), False)
        first.clear()
        self.assertEqual(turned_spots(leans), [(0, 0), (1, 0), (2, 0)])


if __name__ == "__main__":
    unittest.main()
