"""Points 5 and 9 and the interface of hiddensorts/tables.py."""

import random
import unittest
from fractions import Fraction

from hiddensorts.errors import BadLot, BadSize, BadSpot, BadTable, NeverMet, NotSeen, OtherSizes
from hiddensorts.tables import Table
from tests.tools import (NO_LISTS, NO_NUMBERS, as_it_looks, fraction, random_chances, random_world, ratio, rows)


def random_table(seed, asking, sizes, *, low=0):
    source = random.Random(seed)
    return Table(asking, sizes, random_chances(source, len(rows(asking, sizes)), low=low))


def sum_where(table, keep):
    return sum((fraction(entry) for row, entry in zip(rows(table.asking, table.sizes), table.entries) if keep(row)),
               Fraction(0))


class MakingTablesTest(unittest.TestCase):

    def test_attributes(self):
        asking, sizes, entries = [0, 1], [2, 2, 3], [[1, 2], 0, (2, 8), (1, 4)]
        table = Table(asking, sizes, entries)
        self.assertEqual((table.asking, table.sizes), ((0, 1), (2, 2, 3)))
        self.assertEqual(table.entries, ((1, 2), (0, 1), (1, 4), (1, 4)))
        self.assertTrue(as_it_looks((table.asking, table.sizes, table.entries)))
        self.assertEqual((asking, sizes, entries), ([0, 1], [2, 2, 3], [[1, 2], 0, (2, 8), (1, 4)]))
        asking.append(2)
        sizes.clear()
        entries[0][0] = 9
        self.assertEqual(table, Table((0, 1), (2, 2, 3), ((1, 2), 0, (1, 4), (1, 4))))

    def test_sizes_are_judged_first(self):
        for sizes in NO_LISTS + [[], [1], [7], [2] * 9, [2, True]]:
            with self.assertRaises(BadSize):
                Table("no asking", sizes, None)

    def test_then_the_asking(self):
        for asking, place in ((None, -1), ([1, 0], 1), ([2], 0), ([], -1), ((), -1), ([0, True], 1)):
            with self.assertRaises(BadLot) as caught:
                Table(asking, (2, 2), None)
            self.assertEqual(caught.exception.place, place)

    def test_then_the_entries(self):
        for entries, place in ((None, -1), ([1], -1), ([1, 0, 0], -1), ("ab", -1), ({0: 1, 1: 0}, -1),
                               ([(1, 2), (1, 3)], -1), ([1, 1], -1), ([0, 0], -1), ([1, None, 0], -1),
                               (["x", None], 0), ([2, "x"], 1), (iter([1, 0]), -1)):
            with self.assertRaises(BadTable) as caught:
                Table((0,), (2,), entries)
            self.assertEqual(caught.exception.place, place, entries)
        for value in NO_NUMBERS:
            with self.assertRaises(BadTable) as caught:
                Table((0, 0), (2,), [5, value, value, 5])
            self.assertEqual(caught.exception.place, 1)

    def test_entries_below_0_are_allowed(self):
        table = Table((0,), (2,), [(-1, 2), (3, 2)])
        self.assertEqual(table.entries, ((-1, 2), (3, 2)))
        self.assertIs(table.fair, False)
        self.assertIs(Table((0,), (2,), [0, 1]).fair, True)

    def test_rows_of(self):
        table = random_table(1, (0, 1, 1), (2, 3))
        found = Table.rows_of(table)
        self.assertEqual(found, rows((0, 1, 1), (2, 3)))
        found.clear()
        self.assertEqual(len(Table.rows_of(table)), 18)
        self.assertIsInstance(vars(Table)["rows_of"], staticmethod)

    def test_length_and_iteration(self):
        table = random_table(2, (0, 1), (2, 3))
        self.assertEqual(len(table), 6)
        self.assertEqual(list(table), list(table.entries))
        self.assertEqual([entry for entry in table], list(table.entries))

    def test_equal(self):
        table = random_table(3, (0, 1), (2, 2))
        self.assertTrue(table == Table([0, 1], [2, 2], list(table.entries)))
        self.assertFalse(table != Table([0, 1], [2, 2], list(table.entries)))
        others = [Table((0, 1), (2, 2, 2), table.entries), Table((0, 0), (2, 2), table.entries),
                  Table((0, 1), (2, 2), [1, 0, 0, 0]), table.entries, None, 3]
        for other in others:
            self.assertFalse(table == other)
            self.assertTrue(table != other)

    def test_at(self):
        table = random_table(4, (0, 1, 1), (2, 3))
        for row, entry in zip(rows(table.asking, table.sizes), table.entries):
            self.assertEqual(table.at(row), entry)
            self.assertEqual(table.at(list(row)), entry)
        for row in NO_LISTS + [(), (0, 0), (0, 0, 0, 0), (2, 0, 0), (0, 3, 0), (0, 0, -1), (True, 0, 0), (0, "0", 0)]:
            with self.assertRaises(BadSpot):
                table.at(row)


class LeftOutTest(unittest.TestCase):

    def test_sums_over_the_other_places(self):
        table = random_table(5, (0, 1, 2), (2, 3, 2), low=-2)
        for lot in ([0], [1], [2], [0, 1], [0, 2], [1, 2], [0, 1, 2]):
            left = table.left_to(lot)
            self.assertEqual((left.asking, left.sizes), (tuple(lot), table.sizes))
            for row, entry in zip(rows(lot, table.sizes), left.entries):
                self.assertEqual(fraction(entry), sum_where(table, lambda r: tuple(r[k] for k in lot) == row))

    def test_the_first_place_of_a_look_is_kept(self):
        table = random_table(6, (0, 0, 1, 1), (2, 3))
        left = table.left_to((0, 1))
        for row, entry in zip(rows((0, 1), table.sizes), left.entries):
            self.assertEqual(fraction(entry), sum_where(table, lambda r: (r[0], r[2]) == row))

    def test_refuses(self):
        table = random_table(7, (0, 0, 2), (2, 2, 2))
        for lot, place in ((None, -1), ([3], 0), ([0, 0], 1), ([2, 0], 1), ([1], 0), ([0, 1], 1), ([0, 1, 2], 1),
                           ([1, 0], 1), ([], -1), ((), -1), ([0, True], 1)):
            with self.assertRaises(BadLot) as caught:
                table.left_to(lot)
            self.assertEqual(caught.exception.place, place, lot)

    def test_two_steps_are_one(self):
        table = random_table(8, (0, 1, 2, 3), (2, 3, 2, 2))
        for wide, narrow in (((0, 1, 2), (0, 2)), ((1, 3), (3,)), ((0, 1, 2, 3), (1, 2, 3)), ((0, 2), (0, 2))):
            self.assertEqual(table.left_to(wide).left_to(narrow), table.left_to(narrow))

    def test_the_most(self):
        table = random_table(9, (0, 1, 2, 3, 4), (4,) * 5, low=1)
        self.assertEqual(len(table), 1024)
        self.assertEqual(table.left_to((1, 3)).left_to((3,)), table.left_to((3,)))


class GivenTest(unittest.TestCase):

    def test_divides_by_the_chance(self):
        table = random_table(10, (0, 1, 1, 2), (2, 3, 2), low=1)
        for spot, place in (((0, 1), 0), ((1, 2), 1), ((2, 0), 3)):
            given = table.given(list(spot))
            chance = sum_where(table, lambda r: r[place] == spot[1])
            self.assertEqual(given.asking, table.asking[:place] + table.asking[place + 1:])
            self.assertEqual(given.sizes, table.sizes)
            for row, entry in zip(rows(given.asking, table.sizes), given.entries):
                whole = row[:place] + (spot[1],) + row[place:]
                self.assertEqual(fraction(entry), fraction(table.at(whole)) / chance)

    def test_a_chance_below_0(self):
        table = Table((0, 1), (2, 2), [-1, (1, 2), 1, (1, 2)])
        self.assertEqual(table.given((0, 0)).entries, ((2, 1), (-1, 1)))

    def test_refuses(self):
        table = Table((0, 1), (2, 2, 2), [0, 0, (1, 2), (1, 2)])
        for spot in NO_LISTS + [(3, 0), (0, 2), (0,), (0, 0, 0), (True, 0), (0, None)]:
            with self.assertRaises(BadSpot):
                table.given(spot)
        with self.assertRaises(NotSeen) as caught:
            table.given((2, 0))
        self.assertEqual(caught.exception.lot, (2,))
        with self.assertRaises(NeverMet) as caught:
            table.given([0, 0])
        self.assertEqual(caught.exception.spot, (0, 0))
        with self.assertRaises(NeverMet):
            Table((0, 1), (2, 2), [1, -1, 0, 1]).given((0, 0))

    def test_no_other_place(self):
        with self.assertRaises(NotSeen) as caught:
            Table((1,), (2, 2), [0, 1]).given((1, 0))
        self.assertEqual(caught.exception.lot, (1,))
        asked_again = Table((1, 1), (2, 2), [(1, 2), 0, 0, (1, 2)])
        self.assertEqual(asked_again.given((1, 0)).entries, ((1, 1), (0, 1)))

    def test_leaving_out_and_giving_change_places(self):
        table = random_table(11, (0, 1, 2, 3), (2, 3, 2, 2), low=1)
        for spot, lot in (((1, 2), (0, 3)), ((0, 0), (2,)), ((3, 1), (0, 1, 2))):
            both = tuple(sorted(lot + (spot[0],)))
            self.assertEqual(table.given(spot).left_to(lot), table.left_to(both).given(spot))


class ProductTest(unittest.TestCase):

    def test_places_come_ascending(self):
        one = random_table(12, (1, 1), (2, 2, 3))
        two = random_table(13, (0, 2), (2, 2, 3))
        for both in (one * two, two * one):
            self.assertEqual((both.asking, both.sizes), ((0, 1, 1, 2), (2, 2, 3)))
            for row, entry in zip(rows(both.asking, both.sizes), both.entries):
                self.assertEqual(entry, ratio(fraction(one.at(row[1:3])) * fraction(two.at((row[0], row[3])))))

    def test_refuses(self):
        table = random_table(14, (0, 1), (2, 2))
        with self.assertRaises(OtherSizes):
            table * random_table(15, (0,), (2, 3))
        with self.assertRaises(BadLot) as caught:
            table * random_table(16, (1,), (2, 2))
        self.assertEqual(caught.exception.place, -1)

    def test_other_sizes_are_refused_before_a_common_look(self):
        with self.assertRaises(OtherSizes):
            random_table(18, (0, 1), (2, 2)) * random_table(19, (1,), (2, 3))
        with self.assertRaises(OtherSizes):
            random_table(18, (0, 1), (2, 2)) * random_table(19, (1,), (2, 2, 2))
        for one, two in (((0, 2), (1, 2)), ((1, 1), (0, 1)), ((0,), (0,))):
            with self.assertRaises(BadLot) as caught:
                random_table(20, one, (2, 3, 2)) * random_table(21, two, (2, 3, 2))
            self.assertEqual(caught.exception.place, -1)

    def test_looks_that_lie_between_each_other(self):
        sizes = (2, 3, 2, 3, 2)
        one = random_table(22, (0, 2, 2, 4), sizes, low=-2)
        two = random_table(23, (1, 3), sizes, low=-2)
        both = one * two
        self.assertEqual(both.asking, (0, 1, 2, 2, 3, 4))
        self.assertEqual(both, two * one)
        for row, entry in zip(rows(both.asking, sizes), both.entries):
            mine, theirs = (row[0], row[2], row[3], row[5]), (row[1], row[4])
            self.assertEqual(entry, ratio(fraction(one.at(mine)) * fraction(two.at(theirs))))
        self.assertIs(type(both), Table)
        self.assertTrue(as_it_looks((both.asking, both.sizes, both.entries)))

    def test_what_a_product_is_left_to(self):
        world = random_world(17, (2, 3, 2), 3)
        one, two = world.made((0, 1)), world.made((2,))
        self.assertEqual((one * two).left_to((0, 1)), one)
        self.assertEqual((one * two).left_to((2,)), two)


if __name__ == "__main__":
    unittest.main()
