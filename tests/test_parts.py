"""Point 8 and the interface of hiddensorts/parts.py."""

import itertools
import unittest
from fractions import Fraction

from hiddensorts.errors import BadSpot, NeverMet, NotSeen
from hiddensorts.parts import part, twist
from hiddensorts.sights import Sights
from hiddensorts.tables import Table
from tests.tools import FAR, HALF, NO_LISTS, fraction, random_world, ratio, rows, spots


def entry_at(table, places, row):
    """The entry at the row's answers in the table left out to some places, from the definition."""
    return sum((fraction(entry) for other, entry in zip(rows(table.asking, table.sizes), table.entries)
                if all(other[place] == row[place] for place in places)), Fraction(0))


def part_by_hand(table, row, places):
    """The part, by the sum of point 8, of the row's answers at some places."""
    found = Fraction(0)
    for many in range(len(places) + 1):
        for chosen in itertools.combinations(places, many):
            term = entry_at(table, chosen, row) if chosen else Fraction(1)
            for place in chosen:
                term /= entry_at(table, (place,), row)
            found += (-1) ** (len(places) - many) * term
    return found


class PartTest(unittest.TestCase):

    def test_by_the_definition(self):
        world = random_world(31, (2, 3, 2), 3, low=1)
        for asking in ((0,), (0, 1), (0, 1, 2), (1, 1), (0, 0, 2), (1, 1, 1), (0, 1, 1, 2)):
            table = world.made(asking)
            for row in rows(asking, world.sizes):
                self.assertEqual(part(table, list(row)), ratio(part_by_hand(table, row, range(len(row)))))

    def test_a_table_that_no_world_makes(self):
        table = Table((0, 0, 1), (2, 3), [(k - 2, 18) for k in (1, 5, 3, 2, 9, 3, 1, 2, 1, 0, 4, 11)])
        for row in rows(table.asking, table.sizes):
            singles = [entry_at(table, (place,), row) for place in range(3)]
            if min(singles) > 0:
                self.assertEqual(part(table, row), ratio(part_by_hand(table, row, range(3))))
            else:
                with self.assertRaises(NeverMet) as caught:
                    part(table, row)
                place = [single > 0 for single in singles].index(False)
                self.assertEqual(caught.exception.spot, (table.asking[place], row[place]))

    def test_one_place_two_places(self):
        sights = Sights([HALF, HALF], seen=[((0, 1), FAR)])
        for row in rows((0, 1), (2, 2)):
            self.assertEqual(part(sights.table((0, 1)), row), sights.link((0, row[0]), (1, row[1])))
        self.assertEqual(part(sights.table((0,)), (1,)), (0, 1))

    def test_parts_of_all_subsets_give_the_entry(self):
        world = random_world(32, (2, 2, 3), 3, low=1)
        for asking in ((0, 1, 2), (0, 0, 1), (2, 2)):
            table = world.made(asking)
            for row in rows(asking, world.sizes):
                whole = Fraction(0)
                for many in range(len(row) + 1):
                    for places in itertools.combinations(range(len(row)), many):
                        if not places:
                            whole += 1
                            continue
                        left = world.made([asking[place] for place in places])
                        whole += fraction(part(left, [row[place] for place in places]))
                for look, answer in zip(asking, row):
                    whole *= fraction(world.single((look, answer)))
                self.assertEqual(ratio(whole), table.at(row))

    def test_refuses(self):
        table = Table((0, 1), (2, 2), [0, 0, (1, 2), (1, 2)])
        for row in NO_LISTS + [(), (0,), (0, 0, 0), (2, 0), (0, True), (0, -1)]:
            with self.assertRaises(BadSpot):
                part(table, row)
        with self.assertRaises(NeverMet) as caught:
            part(table, [0, 1])
        self.assertEqual(caught.exception.spot, (0, 0))
        below = Table((0, 1, 1), (2, 2), [0, 0, 0, (-1, 2), 0, (1, 2), (1, 2), (1, 2)])
        with self.assertRaises(NeverMet) as caught:
            part(below, (0, 0, 0))
        self.assertEqual(caught.exception.spot, (0, 0))
        unlike = Table((0, 0), (2,), [0, 1, 0, 0])
        with self.assertRaises(NeverMet) as caught:
            part(unlike, (0, 0))
        self.assertEqual(caught.exception.spot, (0, 0))
        self.assertEqual(part(unlike, (0, 1)), (0, 1))

    def test_the_most(self):
        world = random_world(33, (2,) * 5, 2, low=1)
        asking = (0, 0, 1, 1, 2, 2, 3, 3, 4, 4)
        row = (0, 1, 0, 0, 1, 1, 0, 1, 1, 0)
        self.assertEqual(part(world.made(asking), row)[1] >= 1, True)


class TwistTest(unittest.TestCase):

    def test_in_any_order(self):
        world = random_world(34, (2, 3, 2, 2), 2, low=1)
        sights = world.sights_of([(0, 1), (0, 1, 2, 3)])
        for x, y, z in (((0, 1), (1, 2), (2, 0)), ((1, 0), (2, 1), (3, 1))):
            row = tuple(spot[1] for spot in (x, y, z))
            wanted = part(world.made((x[0], y[0], z[0])), row)
            for order in itertools.permutations((x, y, list(z))):
                self.assertEqual(twist(sights, *order), wanted)

    def test_refuses(self):
        sights = random_world(35, (2, 2, 2, 2), 2, low=1).sights_of([(0, 1, 2), (2, 3), (1, 3), (0, 3)])
        good = [(0, 0), (1, 0), (2, 0)]
        for wrong in NO_LISTS + [(4, 0), (0, 2), (0,), (False, 0)]:
            for place in range(3):
                with self.assertRaises(BadSpot):
                    twist(sights, *[wrong if place == k else good[k] for k in range(3)])
        for three in itertools.product(spots(sights.sizes), repeat=3):
            looks = tuple(sorted(spot[0] for spot in three))
            if looks == (0, 1, 2):
                self.assertEqual(len(twist(sights, *three)), 2)
                continue
            with self.assertRaises(NotSeen) as caught:
                twist(sights, *three)
            self.assertEqual(caught.exception.lot, looks)


if __name__ == "__main__":
    unittest.main()
