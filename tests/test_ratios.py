"""Point 1 and the interface of hiddensorts/ratios.py."""

import random
import unittest
from fractions import Fraction

from hiddensorts.errors import BadNumber, ByZero
from hiddensorts.ratios import (as_ratio, below, greatest, is_int, least, minus, negative, over, plus, ratio_of,
                                root_of, shown, sign_of, times, total)
from tests.tools import NO_LISTS, NO_NUMBERS, as_it_looks, fraction, ratio

BIG = 10 ** 30


class NumbersTest(unittest.TestCase):

    def test_is_int(self):
        self.assertEqual([is_int(value) for value in (0, -3, 10 ** 40)], [True] * 3)
        for value in (True, False, None, 1.0, "1", (1, 1), [1], {}, object()):
            self.assertIs(is_int(value), False)

    def test_as_ratio(self):
        self.assertEqual(as_ratio((6, 4)), (3, 2))
        self.assertEqual(as_ratio([6, 4]), (3, 2))
        self.assertEqual(as_ratio((-6, 4)), (-3, 2))
        self.assertEqual(as_ratio(7), (7, 1))
        self.assertEqual([as_ratio(0), as_ratio((0, 9))], [(0, 1), (0, 1)])
        self.assertEqual(as_ratio((BIG, 2 * BIG)), (1, 2))
        for value in (as_ratio([6, 4]), as_ratio(3)):
            self.assertTrue(as_it_looks(value))

    def test_what_is_no_number(self):
        for value in NO_NUMBERS:
            for call in (as_ratio, negative, sign_of, root_of, shown):
                with self.assertRaises(BadNumber):
                    call(value)
            for call in (plus, minus, times, over, below):
                with self.assertRaises(BadNumber):
                    call(value, 1)
                with self.assertRaises(BadNumber):
                    call(1, value)
            for call in (total, least, greatest):
                with self.assertRaises(BadNumber):
                    call([1, value])

    def test_the_four_ways(self):
        source = random.Random(1)
        for _ in range(200):
            a = (source.randint(-20, 20), source.randint(1, 20))
            b = [source.randint(-20, 20), source.randint(1, 20)]
            one, two = fraction(a), fraction(b)
            self.assertEqual(plus(a, b), ratio(one + two))
            self.assertEqual(minus(a, b), ratio(one - two))
            self.assertEqual(times(a, b), ratio(one * two))
            self.assertEqual(negative(a), ratio(-one))
            self.assertIs(below(a, b), one < two)
            self.assertEqual(sign_of(a), (one > 0) - (one < 0))
            if two != 0:
                self.assertEqual(over(a, b), ratio(one / two))
            self.assertEqual(b[1] >= 1, True)

    def test_integers_serve(self):
        self.assertEqual([plus(1, 2), minus(1, 2), times(3, (1, 3)), over(-4, -6)], [(3, 1), (-1, 1), (1, 1), (2, 3)])
        self.assertEqual(over(4, -6), (-2, 3))
        self.assertEqual(over(0, -6), (0, 1))
        self.assertIs(below((1, 2), (2, 4)), False)
        self.assertEqual([sign_of((-1, 9)), sign_of(0), sign_of(8)], [-1, 0, 1])
        self.assertTrue(all(type(sign_of(value)) is int for value in (-1, 0, 1)))

    def test_over_zero(self):
        with self.assertRaises(ByZero):
            over(1, 0)
        with self.assertRaises(ByZero):
            over(0, (0, 5))
        with self.assertRaises(BadNumber):
            over("1", 0)

    def test_total_least_greatest(self):
        numbers = [(1, 2), 3, [-7, 3], (2, 6)]
        self.assertEqual(total(numbers), ratio(Fraction(1, 2) + 3 - Fraction(7, 3) + Fraction(1, 3)))
        self.assertEqual([least(numbers), greatest(numbers)], [(-7, 3), (3, 1)])
        self.assertEqual([least(((4, 2),)), greatest(((4, 2),))], [(2, 1), (2, 1)])
        self.assertEqual(total(()), (0, 1))
        self.assertEqual(total([]), (0, 1))
        self.assertEqual(numbers, [(1, 2), 3, [-7, 3], (2, 6)])
        for call in (least, greatest):
            with self.assertRaises(BadNumber):
                call([])
        for call in (total, least, greatest):
            for value in NO_LISTS:
                with self.assertRaises(BadNumber):
                    call(value)

    def test_total_of_many_unlike_bottoms(self):
        numbers = [(1, BIG - step) for step in range(60)]
        self.assertEqual(total(numbers), ratio(sum(Fraction(*number) for number in numbers)))

    def test_root_of(self):
        self.assertEqual([root_of((4, 9)), root_of((8, 18)), root_of(0), root_of(49)], [(2, 3), (2, 3), (0, 1), (7, 1)])
        self.assertEqual(root_of((BIG * BIG, 1)), (BIG, 1))
        for value in (2, (1, 2), (4, 8), (4, 3), (-4, 9), -1, BIG * BIG + 1):
            self.assertIsNone(root_of(value))


class TextsOfNumbersTest(unittest.TestCase):

    def test_shown(self):
        self.assertEqual([shown((6, 4)), shown((4, 2)), shown(-3), shown((-2, 6)), shown(0), shown((0, 7))],
                         ["3/2", "2", "-3", "-1/3", "0", "0"])

    def test_ratio_of(self):
        self.assertEqual([ratio_of("3/2"), ratio_of("6/4"), ratio_of("-2/6"), ratio_of("007"), ratio_of("04/08")],
                         [(3, 2), (3, 2), (-1, 3), (7, 1), (1, 2)])
        self.assertEqual([ratio_of("0"), ratio_of("-0"), ratio_of("-00/5"), ratio_of("12")],
                         [(0, 1), (0, 1), (0, 1), (12, 1)])

    def test_ratio_of_refuses(self):
        for text in ("", "-", "/", "1/", "/2", "1/0", "1/000", "1/-2", "--1", "+1", " 1", "1 ", "1 /2", "1/2/3", "1.5",
                     "1_0", "a", "1/a", "1\n", "-/2", "1-", "0x1", "\u0663", "\u00b2", "1/\u0663"):
            with self.assertRaises(BadNumber):
                ratio_of(text)
        for value in (None, 1, True, (1, 2), b"1", ["1"]):
            with self.assertRaises(BadNumber):
                ratio_of(value)

    def test_there_and_back(self):
        source = random.Random(2)
        for _ in range(100):
            value = as_ratio((source.randint(-BIG, BIG), source.randint(1, BIG)))
            self.assertEqual(ratio_of(shown(value)), value)

    def test_long_ones(self):
        top, bottom = 7 * 10 ** 1499 + 1, 10 ** 1499
        value = as_ratio((top, bottom))
        self.assertEqual(ratio_of(shown(value)), value)
        self.assertEqual(ratio_of("0" * 1400 + "12/" + "0" * 1400 + "8"), (3, 2))
        self.assertEqual(ratio_of("1" + "0" * 5000), (10 ** 5000, 1))


if __name__ == "__main__":
    unittest.main()
