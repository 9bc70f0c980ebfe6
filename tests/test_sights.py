"""Points 6, 7 and 10 and the interface of hiddensorts/sights.py."""

import itertools
import unittest

from hiddensorts.errors import BadLot, BadSingle, BadSpot, BadTable, Disagrees, NotSeen
from hiddensorts.matrices import rank
from hiddensorts.sights import Sights
from hiddensorts.tables import Table
from tests.tools import (FAR, HALF, NEAR, NO_LISTS, NO_NUMBERS, QUARTERS, as_it_looks, fraction, random_world, ratio,
                         spots)

THIRDS = [(1, 3), (2, 3)]


def three():
    """Sights of four looks with a seen lot of three, a pair of it, and one pair more."""
    world = random_world(21, (2, 3, 2, 2), 2, low=1)
    return world, world.sights_of([(0, 1, 2), (1, 2), (2, 3)])


class MakingSightsTest(unittest.TestCase):

    def test_examples(self):
        s = Sights([HALF, HALF], seen=[((0, 1), FAR)])
        self.assertEqual([s.link((0, 0), (1, 0)), s.link((1, 1), (0, 0)), s.linked(), (0, 1) in s],
                         [(1, 4), (-1, 4), [(0, 1)], True])
        with self.assertRaises(Disagrees) as caught:
            Sights([HALF, HALF], seen=[((0, 1), [(1, 2), 0, (1, 4), (1, 4)])])
        self.assertEqual((caught.exception.lot, caught.exception.other), ((0, 1), (1,)))

    def test_attributes(self):
        singles = [[[2, 4], (1, 2)], ((1, 3), (1, 3), [2, 6])]
        seen = [[[0, 1], [(1, 6)] * 6]]
        sights = Sights(singles, seen=seen)
        self.assertEqual(sights.sizes, (2, 3))
        self.assertEqual(sights.singles, (((1, 2), (1, 2)), ((1, 3),) * 3))
        self.assertEqual(sights.lots, ((0, 1),))
        self.assertTrue(as_it_looks((sights.sizes, sights.singles, sights.lots)))
        self.assertEqual(singles, [[[2, 4], (1, 2)], ((1, 3), (1, 3), [2, 6])])
        self.assertEqual(seen, [[[0, 1], [(1, 6)] * 6]])
        singles[0][0][0] = 1
        seen[0][0].append(2)
        seen[0][1].clear()
        seen.clear()
        self.assertEqual(sights, Sights([HALF, [(1, 3)] * 3], seen=[((0, 1), [(1, 6)] * 6)]))

    def test_nothing_seen(self):
        sights = Sights([HALF])
        self.assertEqual((sights.lots, sights.pairs(), sights.linked()), ((), [], []))
        self.assertEqual(Sights(([(1, 6)] * 6,) * 8).sizes, (6,) * 8)

    def assert_single(self, look, singles, seen=None):
        with self.assertRaises(BadSingle) as caught:
            Sights(singles, seen=seen)
        self.assertEqual(caught.exception.look, look)

    def test_wrong_singles(self):
        for singles in NO_LISTS + [[], (), [HALF] * 9]:
            self.assert_single(-1, singles)
        for entries in NO_LISTS + [[], [1], [(1, 7)] * 7, [1, 0], [(3, 2), (-1, 2)], [(1, 2), (1, 3)], [0, 1],
                                   [(1, 2), (1, 2), 0]]:
            self.assert_single(1, [HALF, entries, None])
        for number in NO_NUMBERS:
            self.assert_single(2, [HALF, HALF, [number, number]])

    def assert_lot(self, place, seen):
        with self.assertRaises(BadLot) as caught:
            Sights([HALF] * 3, seen=seen)
        self.assertEqual(caught.exception.place, place)

    def test_wrong_lots(self):
        for seen in NO_LISTS:
            self.assert_lot(-1, seen)
        for pair in NO_LISTS + [(), ((0, 1),), ((0, 1), FAR, 3)]:
            self.assert_lot(-1, [((0, 1), FAR), pair])
        for lot, place in ((None, -1), ([1, 0], 1), ([0, 3], 1), ([0, 0], 1), ([True, 1], 0), ([], -1), ([0], -1),
                           ([3], 0), ("01", -1)):
            self.assert_lot(place, [(lot, None)])

    def assert_table(self, place, entries):
        with self.assertRaises(BadTable) as caught:
            Sights([HALF] * 2, seen=[((0, 1), entries)])
        self.assertEqual(caught.exception.place, place, entries)

    def test_wrong_entries(self):
        for entries in NO_LISTS + [[], [1], [(1, 5)] * 5, [(1, 8)] * 8]:
            self.assert_table(-1, entries)
        for value in NO_NUMBERS:
            self.assert_table(2, [9, 9, value, -1])
        self.assert_table(1, [9, -1, "x", 9])
        self.assert_table(0, [(-1, 4), (3, 4), (3, 4), (-1, 4)])
        self.assert_table(-1, [(1, 4), (1, 4), (1, 4), (1, 5)])

    def test_pairs_are_judged_in_turn(self):
        self.assert_lot(1, [((0, 1), FAR), ((1, 0), None), (None, None)])
        with self.assertRaises(BadTable):
            Sights([HALF] * 3, seen=[((0, 1), None), ((1, 0), None)])
        with self.assertRaises(Disagrees):
            Sights([HALF] * 3, seen=[((0, 1), [1, 0, 0, 0]), None])

    def test_disagrees_with_the_singles(self):
        for entries, look in (([1, 0, 0, 0], 0), ([(1, 2), 0, (1, 2), 0], 1), ([(1, 2), (1, 2), 0, 0], 0)):
            with self.assertRaises(Disagrees) as caught:
                Sights([HALF] * 4, seen=[([1, 3], entries)])
            self.assertEqual((caught.exception.lot, caught.exception.other), ((1, 3), ((1, 3)[look],)))

    def test_disagrees_with_an_earlier_lot(self):
        even = [(1, 8)] * 8
        seen = [((2, 3), NEAR), ((0, 1), QUARTERS), ((0, 1, 2), even), ((1, 2), FAR)]
        with self.assertRaises(Disagrees) as caught:
            Sights([HALF] * 4, seen=seen)
        self.assertEqual((caught.exception.lot, caught.exception.other), ((1, 2), (0, 1, 2)))
        with self.assertRaises(Disagrees) as caught:
            Sights([HALF] * 4, seen=[((0, 1), QUARTERS), ((1, 2), FAR), ((0, 1), NEAR)])
        self.assertEqual((caught.exception.lot, caught.exception.other), ((0, 1), (0, 1)))

    def test_the_first_earlier_lot_is_told(self):
        world = random_world(22, (2, 2, 2, 2), 2, low=1)
        other = random_world(23, (2, 2, 2, 2), 2, low=1)
        seen = [((0, 1), world.made((0, 1)).entries), ((0, 1, 2), world.made((0, 1, 2)).entries)]
        sights = Sights([world.made((look,)).entries for look in range(4)], seen=seen)
        product = world.made((0,)) * world.made((1,)) * world.made((2,))
        with self.assertRaises(Disagrees) as caught:
            sights.adding((0, 1, 2), product.entries)
        self.assertEqual(caught.exception.other, (0, 1))
        self.assertNotEqual(world, other)

    def test_lots_that_share_one_look_agree(self):
        self.assertEqual(Sights([HALF] * 3, seen=[((0, 1), NEAR), ((1, 2), FAR)]).lots, ((0, 1), (1, 2)))


class AskingSightsTest(unittest.TestCase):

    def test_single(self):
        sights = Sights([HALF, THIRDS])
        self.assertEqual([sights.single((0, 1)), sights.single([1, 1])], [(1, 2), (2, 3)])
        for spot in NO_LISTS + [(2, 0), (0, 2), (0,), (True, 0)]:
            with self.assertRaises(BadSpot):
                sights.single(spot)

    def test_sees(self):
        _, sights = three()
        for lot in ((), (0,), [3], (0, 1), [0, 2], (1, 2), (2, 3), (0, 1, 2)):
            self.assertIs(sights.sees(lot), True)
            self.assertIs(lot in sights, True)
        for lot in ((0, 3), (1, 3), (0, 1, 3), (1, 2, 3), (0, 1, 2, 3)):
            self.assertIs(sights.sees(lot), False)
            self.assertIs(lot in sights, False)
        for lot, place in ((None, -1), ((1, 1), 1), ((4,), 0), ((0, False), 1)):
            for call in (sights.sees, lambda value: value in sights):
                with self.assertRaises(BadLot) as caught:
                    call(lot)
                self.assertEqual(caught.exception.place, place)

    def test_sees_where_nothing_was_seen(self):
        sights = Sights([HALF, HALF])
        self.assertEqual([sights.sees(()), sights.sees([1]), sights.sees((0, 1))], [True, True, False])

    def test_table(self):
        world, sights = three()
        for lot in ((0,), (1,), [3], (0, 1), [0, 2], (1, 2), (2, 3), (0, 1, 2)):
            self.assertEqual(sights.table(lot), world.made(lot))
        for lot, place in ((None, -1), ((2, 1), 1), ((4,), 0), ((), -1), ([], -1)):
            with self.assertRaises(BadLot) as caught:
                sights.table(lot)
            self.assertEqual(caught.exception.place, place)
        for lot in ([0, 3], (1, 2, 3)):
            with self.assertRaises(NotSeen) as caught:
                sights.table(lot)
            self.assertEqual(caught.exception.lot, tuple(lot))

    def test_link(self):
        world, sights = three()
        for x, y in itertools.product(spots(sights.sizes), repeat=2):
            pair = tuple(sorted((x[0], y[0])))
            if pair in ((0, 1), (0, 2), (1, 2), (2, 3)):
                row = (x[1], y[1]) if x < y else (y[1], x[1])
                entry = fraction(world.made(pair).at(row))
                wanted = entry / (fraction(world.single(x)) * fraction(world.single(y))) - 1
                self.assertEqual(sights.link(x, y), ratio(wanted))
                self.assertEqual(sights.link(list(x), list(y)), ratio(wanted))
            else:
                with self.assertRaises(NotSeen) as caught:
                    sights.link(x, y)
                self.assertEqual(caught.exception.lot, pair)
        for wrong in NO_LISTS + [(4, 0), (0, 2), (0, True)]:
            for pair in ((wrong, (0, 0)), ((0, 0), wrong)):
                with self.assertRaises(BadSpot):
                    sights.link(*pair)

    def test_links_of_a_spot_have_the_mean_0(self):
        _, sights = three()
        for look, other in sights.pairs():
            for one, two in ((look, other), (other, look)):
                for y in range(sights.sizes[two]):
                    self.assertEqual(sum(fraction(sights.single((one, x))) * fraction(sights.link((one, x), (two, y)))
                                         for x in range(sights.sizes[one])), 0)

    def test_pairs_and_linked(self):
        world = random_world(24, (2, 3, 2, 2), 2, low=1, alike=1)
        sights = world.sights_of([(2, 3), (0, 1, 2), (1, 2), (0, 3)])
        self.assertEqual(sights.pairs(), [(0, 1), (0, 2), (0, 3), (1, 2), (2, 3)])
        self.assertEqual(sights.linked(), [(1, 2), (2, 3)])
        for pair in sights.pairs():
            table = sights.table(pair)
            size = sights.sizes[pair[1]]
            matrix = [table.entries[start:start + size] for start in range(0, len(table), size)]
            self.assertEqual(pair in sights.linked(), rank(matrix) != 1)
            self.assertEqual(pair in sights.linked(), table != sights.table(pair[:1]) * sights.table(pair[1:]))
        for call in (sights.pairs, sights.linked):
            call().clear()
            self.assertTrue(call())

    def test_one_answer_linked_is_enough(self):
        single = [(1, 4), (1, 4), (1, 2)]
        table = [(1, 16), (1, 16), (1, 8), (1, 16), (1, 8), (1, 16), (1, 8), (1, 16), (5, 16)]
        self.assertEqual(Sights([single, single], seen=[((0, 1), table)]).linked(), [(0, 1)])


class ChangedSightsTest(unittest.TestCase):

    def test_adding(self):
        world, sights = three()
        more = sights.adding([0, 3], world.made((0, 3)).entries)
        self.assertEqual(more.lots, ((0, 1, 2), (1, 2), (2, 3), (0, 3)))
        self.assertEqual(more, world.sights_of([(0, 1, 2), (1, 2), (2, 3), (0, 3)]))
        self.assertEqual(sights.lots, ((0, 1, 2), (1, 2), (2, 3)))
        self.assertEqual(more.link((0, 0), (3, 0)), world.sights_of([(0, 3)]).link((0, 0), (3, 0)))
        self.assertEqual(sights.adding((1, 2), world.made((1, 2)).entries).lots, ((0, 1, 2), (1, 2), (2, 3), (1, 2)))

    def test_adding_refuses(self):
        _, sights = three()
        for lot, place in ((None, -1), ((3, 0), 1), ((0, 4), 1), ((), -1), ((0,), -1)):
            with self.assertRaises(BadLot) as caught:
                sights.adding(lot, None)
            self.assertEqual(caught.exception.place, place)
        for entries, place in ((None, -1), ([9, "x", 9, 9], 1), ([1, -1, 1, 0], 1), ([1, 1, 1, 1], -1)):
            with self.assertRaises(BadTable) as caught:
                sights.adding((0, 3), entries)
            self.assertEqual(caught.exception.place, place)
        with self.assertRaises(Disagrees) as caught:
            sights.adding((0, 3), [1, 0, 0, 0])
        self.assertEqual((caught.exception.lot, caught.exception.other), ((0, 3), (0,)))
        product = sights.table((2,)) * sights.table((3,))
        with self.assertRaises(Disagrees) as caught:
            sights.adding((2, 3), product.entries)
        self.assertEqual((caught.exception.lot, caught.exception.other), ((2, 3), (2, 3)))

    def test_without(self):
        world, sights = three()
        less = sights.without(1)
        self.assertEqual((less.sizes, less.singles), ((2, 2, 2), sights.singles[:1] + sights.singles[2:]))
        self.assertEqual(less.lots, ((0, 1), (1, 2)))
        self.assertEqual(less, world.without(1).sights_of([(0, 1), (1, 2)]))
        self.assertEqual(sights.without(3).lots, ((0, 1, 2), (1, 2)))
        self.assertEqual(sights.without(0).lots, ((0, 1), (1, 2)))
        self.assertEqual(sights.without(2).lots, ((0, 1),))
        self.assertEqual(sights.lots, ((0, 1, 2), (1, 2), (2, 3)))

    def test_without_drops_lots_that_are_then_equal(self):
        world = random_world(25, (2, 2, 2, 2), 2, low=1)
        sights = world.sights_of([(0, 1), (1, 2), (0, 1, 2), (1, 2), (0, 1, 3)])
        self.assertEqual(sights.without(2).lots, ((0, 1), (0, 1, 2)))
        self.assertEqual(sights.without(0).lots, ((0, 1), (0, 2)))

    def test_without_refuses(self):
        _, sights = three()
        for look in (4, -1, True, False, None, "0", (0,), 1.0):
            with self.assertRaises(BadLot) as caught:
                sights.without(look)
            self.assertEqual(caught.exception.place, 0)
        with self.assertRaises(BadLot) as caught:
            Sights([HALF]).without(0)
        self.assertEqual(caught.exception.place, 0)

    def test_without_tells_the_same_of_the_others(self):
        _, sights = three()
        for look in range(4):
            less = sights.without(look)
            kept = [other for other in range(4) if other != look]
            for many in (2, 3):
                for lot in itertools.combinations(range(3), many):
                    old = tuple(kept[place] for place in lot)
                    self.assertEqual(lot in less, old in sights)
                    if lot in less:
                        self.assertEqual(less.table(lot).entries, sights.table(old).entries)

    def test_equal(self):
        world, sights = three()
        self.assertTrue(sights == world.sights_of([(2, 3), (1, 2), (1, 2), (0, 1, 2)]))
        self.assertFalse(sights != world.sights_of([(2, 3), (1, 2), (0, 1, 2), (2, 3)]))
        self.assertFalse(sights == world.sights_of([(2, 3), (0, 1, 2)]))
        self.assertFalse(Sights([HALF, HALF], seen=[((0, 1), FAR)]) == Sights([HALF, HALF], seen=[((0, 1), NEAR)]))
        self.assertFalse(Sights([HALF, HALF]) == Sights([HALF, THIRDS]))
        self.assertTrue(Sights([HALF, THIRDS]) == Sights(([(2, 4), (1, 2)], ((1, 3), (4, 6)))))
        for other in (None, 3, sights.singles):
            self.assertFalse(sights == other)

    def test_put_together_again_in_any_order(self):
        _, sights = three()
        for order in itertools.permutations(range(3)):
            again = Sights(sights.singles)
            for place in order:
                lot = sights.lots[place]
                again = again.adding(lot, sights.table(lot).entries)
            self.assertEqual(again, sights)
            self.assertEqual(again.lots, tuple(sights.lots[place] for place in order))

    def test_the_most(self):
        world = random_world(26, (4,) * 5, 2, low=1)
        lots = [(0, 1, 2, 3, 4)] + list(itertools.combinations(range(5), 2)) + [(0, 1, 2)] * 9
        sights = world.sights_of(lots)
        self.assertEqual(len(sights.lots), 20)
        self.assertEqual(sights, world.sights_of(sorted(set(lots))))
        self.assertEqual(sights.table((1, 2, 4)), world.made((1, 2, 4)))

    def test_tables_are_the_tables_of_a_world(self):
        self.assertIsInstance(Sights([HALF]).table((0,)), Table)


if __name__ == "__main__":
    unittest.main()
