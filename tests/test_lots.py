"""Points 3 and 4 and the interface of hiddensorts/lots.py."""

import inspect
import unittest

from hiddensorts.errors import BadLot, BadSize, BadSpot
from hiddensorts.lots import asking_of, lot_of, row_spots, rows_in_order, sizes_of, spot_of, spots_in_order
from tests.tools import NO_INTEGERS, NO_LISTS, rows


class SizesTest(unittest.TestCase):

    def test_good_ones(self):
        self.assertEqual(sizes_of([2]), (2,))
        self.assertEqual(sizes_of((2, 6, 3)), (2, 6, 3))
        self.assertEqual(sizes_of([6] * 8), (6,) * 8)

    def test_wrong_ones(self):
        wrong = NO_LISTS + [[], (), [2] * 9, [1], [7], [2, 0], [2, -2]] + [[2, value] for value in NO_INTEGERS]
        for value in wrong:
            with self.assertRaises(BadSize):
                sizes_of(value)


class LotsTest(unittest.TestCase):

    def assert_place(self, place, call, value, many):
        with self.assertRaises(BadLot) as caught:
            call(value, many)
        self.assertEqual(caught.exception.place, place)

    def test_good_lots(self):
        for value in ([], (), [0], (2,), [0, 2], (0, 1, 2)):
            self.assertEqual(lot_of(value, 3), tuple(value))
            self.assertEqual(asking_of(value, 3), tuple(value))
            self.assertIs(type(lot_of(value, 3)), tuple)

    def test_good_askings(self):
        for value in ([0, 0], (0, 0, 1, 2, 2, 2), [2, 2]):
            self.assertEqual(asking_of(value, 3), tuple(value))

    def test_no_lists(self):
        for value in NO_LISTS:
            self.assert_place(-1, lot_of, value, 3)
            self.assert_place(-1, asking_of, value, 3)

    def test_wrong_places(self):
        for call in (lot_of, asking_of):
            self.assert_place(0, call, [3], 3)
            self.assert_place(0, call, [-1, 0], 3)
            self.assert_place(1, call, (0, 3), 3)
            self.assert_place(1, call, (2, 1, 0), 3)
            self.assert_place(2, call, (0, 2, 1, "x"), 3)
            for value in NO_INTEGERS:
                self.assert_place(1, call, [0, value, 9], 3)
        self.assert_place(1, lot_of, [1, 1, 0], 3)
        self.assert_place(2, asking_of, [1, 1, 0], 3)

    def test_copies(self):
        value = [0, 1]
        lot = lot_of(value, 2)
        value.append(2)
        self.assertEqual(lot, (0, 1))


class SpotsTest(unittest.TestCase):

    def test_spot_of(self):
        self.assertEqual([spot_of([1, 2], (2, 3)), spot_of((0, 0), [2, 3])], [(1, 2), (0, 0)])
        wrong = NO_LISTS + [(), (0,), (0, 0, 0), (2, 0), (-1, 0), (0, 2), (0, -1), (1, 3)]
        wrong += [(value, 0) for value in NO_INTEGERS] + [(0, value) for value in NO_INTEGERS]
        for value in wrong:
            with self.assertRaises(BadSpot):
                spot_of(value, (2, 3))

    def test_spots_in_order(self):
        self.assertTrue(inspect.isgeneratorfunction(spots_in_order))
        self.assertEqual(list(spots_in_order((2, 3))), [(0, 0), (0, 1), (1, 0), (1, 1), (1, 2)])
        self.assertEqual(list(spots_in_order([2])), [(0, 0), (0, 1)])

    def test_row_spots(self):
        self.assertEqual(row_spots((0, 0, 2), [1, 0, 1]), ((0, 1), (0, 0), (2, 1)))
        self.assertEqual(row_spots((), ()), ())
        self.assertEqual(row_spots((0, 1), [9, -4]), ((0, 9), (1, -4)))
        for row in NO_LISTS + [(), (0,), (0, 0, 0)]:
            with self.assertRaises(BadSpot):
                row_spots((0, 1), row)


class RowsTest(unittest.TestCase):

    def test_order(self):
        self.assertTrue(inspect.isgeneratorfunction(rows_in_order))
        self.assertEqual(list(rows_in_order((0, 1), (2, 3))), [(0, 0), (0, 1), (0, 2), (1, 0), (1, 1), (1, 2)])
        self.assertEqual(list(rows_in_order((), (2,))), [()])
        self.assertEqual(list(rows_in_order([1, 1], [2, 2])), [(0, 0), (0, 1), (1, 0), (1, 1)])
        for asking in ((0,), (1, 2), (0, 0, 2, 2)):
            self.assertEqual(list(rows_in_order(asking, (2, 3, 4))), rows(asking, (2, 3, 4)))

    def test_the_most(self):
        self.assertEqual(len(list(rows_in_order(range(5), (4,) * 8))), 1024)

    def test_changed_arguments_change_nothing(self):
        asking, sizes = [0, 1], [2, 2]
        going = rows_in_order(asking, sizes)
        spots = spots_in_order(sizes)
        found, met = [next(going)], [next(spots)]
        asking.append(1)
        sizes[1] = 3
        self.assertEqual(found + list(going), [(0, 0), (0, 1), (1, 0), (1, 1)])
        self.assertEqual(met + list(spots), [(0, 0), (0, 1), (1, 0), (1, 1)])


if __name__ == "__main__":
    unittest.main()
