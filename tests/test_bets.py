"""Points 95 and 96 on bets and the interface of hiddensorts/bets.py."""

import itertools
import random
import unittest
from fractions import Fraction

from hiddensorts.bets import bet_worth, better_price, prices
from hiddensorts.drawings import drawn_sights, told_drawing
from hiddensorts.errors import BadLot, BadNumber, BadSpot, NeverMet
from hiddensorts.stakes import Stakes, worth_by
from hiddensorts.tables import Table
from hiddensorts.tilts import Tilts
from hiddensorts.webs import Web
from tests.shares import random_matrix, worth_by_hand
from tests.test_drawings import many_pieces, random_drawings
from tests.tools import FAR, NO_NUMBERS, as_it_looks, fraction, random_chances, ratio

TABLE = Table((0, 1), (2, 2), FAR)
# Tables that are none of two different looks.
OTHERS = [Table((0,), (2, 2), [(1, 2), (1, 2)]), Table((1, 1), (2, 2), FAR), Table((0, 1, 2), (2, 2, 2), [(1, 8)] * 8)]


def tables(count=20):
    """Tables of looks 1 and 2 of four looks; some entries are below 0."""
    source = random.Random(9400)
    for turn in range(count):
        sizes = (2, source.randint(2, 4), source.randint(2, 4), 3)
        yield Table((1, 2), sizes, random_chances(source, sizes[1] * sizes[2], low=1 if turn % 3 else -1))


def matrix_of(table, look):
    """The table as fractions, rows by the answers of the look that is not this one, columns by this one's."""
    first, second = [table.sizes[at] for at in table.asking]
    rows = [[fraction(table.entries[a * second + b]) for b in range(second)] for a in range(first)]
    return rows if look == table.asking[1] else [list(column) for column in zip(*rows)]


def spots_of(table):
    return [(look, answer) for look in table.asking for answer in range(table.sizes[look])]


class WorthTest(unittest.TestCase):

    def test_by_definition(self):
        for table in tables():
            for spot in spots_of(table):
                matrix = matrix_of(table, spot[0])
                for price in (Fraction(0), Fraction(1, 3), Fraction(-1, 2), Fraction(1), Fraction(7, 5)):
                    acts = [[(1 if z == spot[1] else 0) - price for z in range(len(matrix[0]))], [0] * len(matrix[0])]
                    found = bet_worth(table, list(spot), list(ratio(price)))
                    self.assertEqual(found, ratio(worth_by_hand(matrix, acts)))
                    self.assertEqual(found, worth_by([[ratio(entry) for entry in row] for row in matrix],
                                                     Stakes([[ratio(number) for number in act] for act in acts])))
                    self.assertTrue(as_it_looks(found))

    def test_prices(self):
        never = 0
        for table in tables(40):
            for spot in spots_of(table):
                matrix = matrix_of(table, spot[0])
                other = table.asking[0] if spot[0] == table.asking[1] else table.asking[1]
                if any(sum(row) == 0 for row in matrix):
                    with self.assertRaises(NeverMet) as caught:
                        prices(table, spot)
                    self.assertEqual(caught.exception.spot, (other, [sum(row) == 0 for row in matrix].index(True)))
                    never += 1
                    continue
                found = prices(table, list(spot))
                self.assertIs(type(found), list)
                self.assertEqual(found, [ratio(row[spot[1]] / sum(row)) for row in matrix])
        empty = Table((0, 1), (2, 3), [0, (1, 4), 0, (1, 4), (1, 2), 0])
        self.assertEqual(prices(empty, (1, 1)), [(1, 1), (2, 3)])
        empty = Table((0, 1), (2, 3), [(1, 2), 0, 0, (1, 4), (1, 4), 0])
        with self.assertRaises(NeverMet) as caught:
            prices(empty, (0, 1))
        self.assertEqual(caught.exception.spot, (1, 2))
        found = prices(TABLE, (1, 0))
        found.append(1)
        self.assertEqual(len(prices(TABLE, (1, 0))), 2)
        self.assertGreater(never, 0)

    def test_example(self):
        self.assertEqual((prices(TABLE, (1, 0)), bet_worth(TABLE, (1, 0), (1, 2))), ([(5, 8), (3, 8)], (1, 16)))

    def test_refuses(self):
        for table in OTHERS:
            for call in (lambda: bet_worth(table, None, None), lambda: prices(table, None),
                         lambda: better_price(table, TABLE, (0, 0)), lambda: better_price(TABLE, table, None)):
                with self.assertRaises(BadLot) as caught:
                    call()
                self.assertEqual(caught.exception.place, -1)
        wide = Table((0, 1), (2, 2, 2), FAR)
        for spot in (None, (2, 0), (0, 2), (0,), "00", (True, 0), (0, 0, 0)):
            for call in (lambda: bet_worth(TABLE, spot, None), lambda: prices(TABLE, spot),
                         lambda: better_price(TABLE, wide, spot), lambda: better_price(wide, wide, spot),
                         lambda: prices(wide, spot)):
                with self.assertRaises(BadSpot):
                    call()
        # The spot is judged by the other table, too.
        for other in (Table((1, 2), (2, 2, 2), FAR), Table((0, 1), (2, 3), [(1, 6)] * 6)):
            good = (0, 0) if 0 not in other.asking else (1, 2)
            with self.assertRaises(BadSpot):
                better_price(TABLE, other, good)
        for value in NO_NUMBERS:
            with self.assertRaises(BadNumber):
                bet_worth(TABLE, (0, 0), value)
        empty = Table((0, 1), (2, 2), [(1, 2), 0, (1, 2), 0])
        with self.assertRaises(NeverMet) as caught:
            better_price(empty, TABLE, (0, 0))
        self.assertEqual(caught.exception.spot, (1, 1))
        better_price(TABLE, empty, (0, 0))


class BetterPriceTest(unittest.TestCase):

    def test_by_definition(self):
        found = []
        for one, two in itertools.permutations(list(tables(16)), 2):
            if one.sizes[2] != two.sizes[2]:
                continue
            for answer in range(one.sizes[2]):
                spot = (2, answer)
                if any(sum(row) == 0 for row in matrix_of(one, 2)):
                    continue
                wanted = None
                for price in prices(one, spot):
                    if fraction(bet_worth(two, spot, price)) > fraction(bet_worth(one, spot, price)):
                        wanted = price
                        break
                self.assertEqual(better_price(one, two, spot), wanted)
                found.append(wanted is None)
        self.assertGreater(min(found.count(True), found.count(False)), 5)

    def test_a_tie_is_not_more(self):
        self.assertIsNone(better_price(TABLE, TABLE, (1, 0)))
        blunt = Table((0, 1), (2, 2), [(1, 4)] * 4)
        self.assertIsNone(better_price(TABLE, blunt, (1, 0)))
        self.assertEqual(better_price(blunt, TABLE, (1, 0)), (1, 2))

    def test_one_bet_at_each_price(self):
        # Point 96: in the worlds of a piece one bet tells whether a drawing exists.
        words = []
        for sights, number in many_pieces():
            tilts, web = Tilts(sights, number), Web(sights)
            for i, j in itertools.permutations(tilts.looks, 2):
                if web.walk(i, j, False) is None:
                    continue
                drawn = told_drawing(sights, i, j) is not None
                for l in tilts.looks:
                    if l in (i, j) or web.walk(l, i, True) is None or web.walk(l, j, True) is None:
                        continue
                    for answer in range(sights.sizes[l]):
                        if tilts.leaning((l, answer)) == 0:
                            continue
                        price = better_price(tilts.told_table(i, l), tilts.told_table(j, l), (l, answer))
                        self.assertEqual(price is None, drawn)
                        words.append(drawn)
        self.assertGreater(min(words.count(True), words.count(False)), 20)

    def test_no_price_is_better_where_one_is_drawn(self):
        source = random.Random(9401)
        for sights, number in list(many_pieces())[::5]:
            tilts, web = Tilts(sights, number), Web(sights)
            look = tilts.looks[0]
            near = web.steps(look)[0]
            more = drawn_sights(sights, look, random_drawings(source, sights.sizes[look], 1, gaps=0)[0])
            n = len(sights.sizes)
            one, two = more.table(tuple(sorted((look, near)))), more.table((near, n))
            for _ in range(20):
                spot = (near, source.randrange(sights.sizes[near]))
                price = ratio(random_matrix(source, 1, 1, low=-2, high=4)[0][0])
                self.assertLessEqual(fraction(bet_worth(two, spot, price)), fraction(bet_worth(one, spot, price)))
            self.assertIsNone(better_price(one, two, (near, 0)))


if __name__ == "__main__":
    unittest.main()
