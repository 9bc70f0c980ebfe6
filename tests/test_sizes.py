"""Point 0.6: the greatest sizes, over the modules of stages 6 to 10."""

import itertools
import unittest
from fractions import Fraction

from hiddensorts.changing import apart_number, two_of
from hiddensorts.curves import Curve
from hiddensorts.desks import Desk
from hiddensorts.drawings import Drawing, drawing_for, drawn_sights, told_drawing, turns
from hiddensorts.errors import BadSingle
from hiddensorts.evens import EvenWeb
from hiddensorts.founding import agrees, found, found_ringed, is_of
from hiddensorts.fullness import is_full, lot_matrix, pair_matrix, table_rank
from hiddensorts.givens import given_sights, shown_lots
from hiddensorts.leans import Leans
from hiddensorts.plans import a_plan, to_see
from hiddensorts.saying import says_all, sure_by
from hiddensorts.showing import can_show, shows_well
from hiddensorts.sights import Sights
from hiddensorts.standing import stand
from hiddensorts.stakes import Stakes, carried, carried_back, knowing, worth_by, worth_of_sorts
from tests.tools import HALF, fraction, random_world, ratio

LARGE = 10 ** 30
CHAIN = [(look, look + 1) for look in range(7)]


class SizesTest(unittest.TestCase):

    def test_five_sorts_and_1024_rows(self):
        world = random_world(13500, (4,) * 8, 5, low=1)
        lot = (0, 1, 2, 3, 4)
        self.assertEqual((len(lot_matrix(world, lot)), is_full(world, lot)), (1024, True))
        stakes = Stakes([[(act * sort) % 7 for sort in range(5)] for act in range(16)])
        self.assertLessEqual(fraction(worth_of_sorts(world, lot, stakes)), fraction(knowing(world, stakes)))
        self.assertEqual(carried(world, lot, carried_back(world, lot, stakes)), stakes)
        table = world.made(lot)
        self.assertEqual((len(pair_matrix(table, (0, 1), (2, 3, 4))), table_rank(table, (0, 1), (2, 3, 4))), (16, 5))
        self.assertIs(says_all(world, lot, (5, 6)), False)
        self.assertIs(sure_by(world, (0, 1, 2), (5, 6)), False)

    def test_even_webs_of_eight_looks(self):
        world = random_world(13501, (6,) * 8, 5, low=1)
        ring = EvenWeb(world.sights_of(list(itertools.combinations(range(8), 2))[:20]))
        self.assertEqual((ring.rank, ring.ringed, agrees(ring)), (5, True, None))
        self.assertIs(is_of(ring, found_ringed(ring)), True)
        chain = EvenWeb(world.sights_of(CHAIN))
        self.assertEqual((chain.rank, chain.ringed, agrees(chain)), (5, False, None))
        self.assertEqual(found(chain, [(1, 5)] * 5).chances, ((1, 5),) * 5)
        self.assertEqual(len(two_of(chain, 1, 7)), 2)

    def test_desks_of_eight_looks_and_twenty_deeds(self):
        world = random_world(13502, (2,) * 8, 2, low=1)
        pairs = list(itertools.combinations(range(8), 2))[:20]
        desk = Desk([world.made((look,)).entries for look in range(8)])
        for pair in pairs:
            desk.see(pair, world.made(pair).entries)
        self.assertEqual((len(desk), desk.word, to_see(desk.so_far)), (20, "fair", 0))
        self.assertEqual(desk.told(7, 7), world.made((7, 7)))
        self.assertEqual(desk.tried(tuple(range(8)), world.made(tuple(range(8))).entries).behind, "fair")

    def test_leans_of_eight_looks(self):
        world = random_world(13503, (2,) * 8, 2, low=1)
        leans = Leans(world.sights_of([(0, 1, 2), (2, 3, 4), (4, 5, 6), (6, 7)]), 0)
        self.assertEqual(len(leans.looks), 8)
        self.assertEqual(stand(given_sights(leans, (0, 0))), ("fair", None))
        self.assertEqual(len(shown_lots(leans)), 2 ** 8 - 1 - 8 - 3 * 4 - 1)

    def test_looks_of_six_answers(self):
        world = random_world(13504, (6,) * 8, 2, low=1)
        sights = world.sights_of(CHAIN)
        self.assertEqual(can_show(sights, 0, 2)[0], "side")
        self.assertIs(shows_well(sights, (0, 7), world.made((0, 7)).entries), True)
        self.assertEqual(a_plan(sights), [(0, 2)])
        told_drawing(sights, 0, 6)
        with self.assertRaises(BadSingle):
            drawn_sights(sights, 0, Drawing.same(6))

    def test_large_tops_and_bottoms(self):
        step = Fraction(1, LARGE)
        matrix = [[ratio(1 + step), ratio(step)], [ratio(step), ratio(1 - step)], [LARGE, (1, LARGE)]]
        drawing = Drawing([[(1, LARGE), 0, 1], [(LARGE - 1, LARGE), 1, 0]])
        other = [list(row) for row in zip(*[drawing([row[column] for row in matrix]) for column in range(2)])]
        self.assertIs(turns(drawing_for(matrix, other), matrix, other), True)
        self.assertEqual(worth_by([[LARGE, (1, LARGE)]], Stakes([[(1, LARGE), LARGE]])), (2, 1))
        curve = Curve([(1, LARGE), (LARGE - 1, LARGE)], [LARGE - 1, -1])
        self.assertEqual(curve.inner(), (((1, LARGE), (LARGE - 1, LARGE)),))
        table = [ratio(Fraction(1, 4) + sign * step) for sign in (1, -1, -1, 1)]
        self.assertIs(shows_well(Sights([HALF] * 2), (0, 1), table), True)

    def test_matrices_of_six_rows_and_columns(self):
        ring = [[1 if (column - row) % 6 in (0, 1, 3) else 0 for column in range(6)] for row in range(6)]
        self.assertGreaterEqual(apart_number(ring), 2)
        self.assertEqual(drawing_for([[1] * 9] * 9, [[9] * 9]).matrix, (((1, 1),) * 9,))


if __name__ == "__main__":
    unittest.main()
