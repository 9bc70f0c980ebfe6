"""Points 36, 37 and 41 and the interface of hiddensorts/tilts.py."""

import itertools
import random
import unittest
from fractions import Fraction

from hiddensorts.errors import BadLook, BadPiece, BadSpot, Clash, IsRinged, OtherPiece
from hiddensorts.sights import Sights
from hiddensorts.tables import Table
from hiddensorts.tilts import Tilts
from hiddensorts.walks import along
from hiddensorts.webs import Web
from tests.oracles import linked_sights, look_spots, made_link, random_vectors, random_web_sights, single
from tests.tools import (FAR, HALF, NEAR, NO_INTEGERS, QUARTERS, as_it_looks, fraction, random_chances, random_world,
                         ratio, rows, spots)

SIDED = [[(0, 1)], [(0, 1), (1, 2)], [(0, 1), (1, 2), (2, 3)], [(0, 2), (1, 2), (2, 3)],
         [(0, 1), (1, 2), (2, 3), (0, 3)], [(0, 3), (1, 3)]]
RINGED = [[(0, 1), (1, 2), (0, 2)], [(0, 1), (1, 2), (0, 2), (2, 3)], [(0, 1, 2, 3)], [(1, 2, 3)]]


def piece_spots(tilts):
    return [spot for look in tilts.looks for spot in look_spots(tilts.sights, look)]


def loose_sights(seed, sizes, lots):
    """Sights that a loose world of two sorts makes, though their tables are fair."""
    source = random.Random(seed)
    while True:
        world = random_world(source.randint(0, 10 ** 9), sizes, 2, low=-1)
        if not world.fair and all(world.made(lot).fair for lot in lots):
            return world, world.sights_of(lots)


class TiltsTest(unittest.TestCase):

    def worlds(self):
        for seed, lots in enumerate(SIDED + RINGED):
            for low, alike in ((1, 0), (0, 0), (1, 1)):
                world = random_world(2000 + 10 * seed + low + alike, (2, 3, 2, 3), 2, low=low, alike=alike)
                yield world, world.sights_of(lots)
            yield loose_sights(2100 + seed, (2, 3, 2, 3), lots)

    def test_what_is_told_is_what_the_world_makes(self):
        many = 0
        for world, sights in self.worlds():
            for number, piece in enumerate(Web(sights).pieces):
                tilts = Tilts(sights, number)
                self.check_attributes(tilts, sights, number, piece)
                self.check_told(tilts, world)
                self.check_tables(tilts, world)
                many += 1
        self.assertGreater(many, 30)

    def check_attributes(self, tilts, sights, number, piece):
        web = Web(sights)
        self.assertIs(tilts.sights, sights)
        self.assertEqual((tilts.number, tilts.looks, tilts.ringed, tilts.sides),
                         (number, piece, web.is_ringed(number), web.sides_of(number)))
        self.assertTrue(as_it_looks((tilts.looks, tilts.sides, tilts.base)))
        least = [x for x in look_spots(sights, piece[0]) for near in web.steps(piece[0])
                 if any(sights.link(x, y) != (0, 1) for y in look_spots(sights, near))]
        self.assertEqual(tilts.base, min(least))

    def check_told(self, tilts, world):
        web = Web(tilts.sights)
        for x, y in itertools.product(piece_spots(tilts), repeat=2):
            told = tilts.told(list(x), y)
            walk = web.walk(x[0], y[0], True)
            if walk is not None:
                self.assertEqual(told, ratio(made_link(world, x, y)))
                self.assertEqual(told, along(tilts.sights, walk, x, y))
            elif (0, 1) in (tilts.tilt(x), tilts.tilt(y)):
                self.assertEqual(told, (0, 1))
            else:
                self.assertIsNone(told)
            if tilts.ringed and x == y:
                self.assertGreaterEqual(told, (0, 1))

    def check_tables(self, tilts, world):
        web = Web(tilts.sights)
        for look, other in itertools.product(tilts.looks, repeat=2):
            found = tilts.told_table(look, other)
            if web.walk(look, other, True) is None:
                self.assertIsNone(found)
                self.assertFalse(tilts.ringed)
            else:
                self.assertIs(type(found), Table)
                self.assertEqual(found, world.made(sorted([look, other])))

    def test_tilts(self):
        for _, sights in self.worlds():
            for number in range(len(Web(sights).pieces)):
                tilts = Tilts(sights, number)
                if not tilts.ringed:
                    self.check_tilts(tilts)

    def check_tilts(self, tilts):
        self.assertEqual(tilts.tilt(tilts.base), (1, 1))
        sides = [[x for look in side for x in look_spots(tilts.sights, look)] for side in tilts.sides]
        for y in sides[1]:
            self.assertEqual(tilts.tilt(y), tilts.told(tilts.base, y))
        for x, y in itertools.product(*sides):
            self.assertEqual(fraction(tilts.told(x, y)), fraction(tilts.tilt(x)) * fraction(tilts.tilt(list(y))))
        for x in sides[0] + sides[1]:
            value = fraction(tilts.tilt(x))
            self.assertEqual(tilts.leaning(x), (value > 0) - (value < 0))
        heights = []
        for side in sides:
            values = [fraction(tilts.tilt(x)) for x in side]
            heights += [max(values), -min(values)]
        self.assertEqual(tilts.heights(), tuple(ratio(height) for height in heights))
        self.assertGreater(min(heights), 0)

    def test_ringed_pieces(self):
        for _, sights in self.worlds():
            for number in range(len(Web(sights).pieces)):
                tilts = Tilts(sights, number)
                if tilts.ringed:
                    told = {x: (fraction(tilts.told(tilts.base, x)), fraction(tilts.told(x, x)))
                            for x in piece_spots(tilts)}
                    for x, (link, _) in told.items():
                        self.assertEqual(tilts.leaning(list(x)), (link > 0) - (link < 0))
                    self.assertEqual(tilts.heights(), (ratio(max(own for link, own in told.values() if link > 0)),
                                                       ratio(max(own for link, own in told.values() if link < 0))))
                    for call in (tilts.tilt, lambda x: tilts.tilt(tilts.base)):
                        with self.assertRaises(IsRinged):
                            call((tilts.looks[0], 0))

    def test_chain(self):
        tilts = Tilts(Sights([HALF] * 4, seen=[((0, 1), NEAR), ((1, 2), FAR), ((2, 3), NEAR)]), 0)
        self.assertEqual(tilts.told((0, 0), (3, 1)), (-9, 4))
        self.assertEqual(tilts.told((3, 1), (0, 0)), (-9, 4))
        self.assertEqual(tilts.told_table(3, 0).entries, ((13, 16), (-5, 16), (-5, 16), (13, 16)))
        self.assertEqual(tilts.told_table(3, 0).asking, (0, 3))
        self.assertIsNone(tilts.told((0, 0), (2, 0)))
        self.assertIsNone(tilts.told((0, 0), (0, 0)))
        self.assertEqual([tilts.tilt(x) for x in spots((2, 2, 2, 2))],
                         [(1, 1), (-1, 1), (3, 4), (-3, 4), (1, 3), (-1, 3), (9, 4), (-9, 4)])
        self.assertEqual(tilts.heights(), ((1, 1), (1, 1), (9, 4), (9, 4)))

    def test_example(self):
        ring = Tilts(Sights([HALF] * 3, seen=[((0, 1), FAR), ((0, 2), FAR), ((1, 2), FAR)]), 0)
        self.assertEqual([ring.told((2, 0), (2, 1)), ring.heights()], [(-1, 4), ((1, 4), (1, 4))])
        self.assertEqual(ring.told_table(1, 1), Table((1, 1), (2, 2, 2), FAR))

    def test_a_base_spot_behind_still_answers(self):
        # The first answer of look 0 has the link 0 with all others.
        singles = [[(1, 4), (1, 4), (1, 2)], HALF, HALF]
        quarter = Fraction(1, 4)
        sights = linked_sights(singles, [[0, -2, 1], [1, -1], [1, -1]], {(0, 1): quarter, (1, 2): quarter})
        tilts = Tilts(sights, 0)
        self.assertEqual((tilts.base, tilts.tilt((0, 0)), tilts.tilt((0, 1))), ((0, 1), (0, 1), (1, 1)))
        self.assertEqual([tilts.leaning((0, answer)) for answer in range(3)], [0, 1, -1])
        self.assertEqual(tilts.told((0, 0), (0, 1)), (0, 1))
        self.assertEqual(tilts.told((0, 0), (2, 1)), (0, 1))
        self.assertIsNone(tilts.told((0, 1), (2, 1)))
        self.assertEqual(tilts.heights()[0], (1, 1))

    def test_first_answers_that_are_linked_with_nothing(self):
        singles = [[(1, 4), (1, 4), (1, 2)]] * 4
        vectors = [[0, -2, 1]] * 4
        fourth = Fraction(1, 4)
        for pairs in ([(0, 1), (1, 2), (2, 3)], [(0, 1), (1, 2), (0, 2), (2, 3)], [(0, 3), (1, 3), (1, 2)]):
            tilts = Tilts(linked_sights(singles, vectors, {pair: fourth for pair in pairs}), 0)
            self.assertEqual(tilts.base, (0, 1))
            for x, y in itertools.product(piece_spots(tilts), repeat=2):
                if tilts.told(x, y) is not None:
                    wanted = fourth * vectors[x[0]][x[1]] * vectors[y[0]][y[1]]
                    self.assertEqual(tilts.told(x, y), ratio(wanted))

    def test_inner_spots_are_not_those_with_link_0(self):
        source = random.Random(2200)
        for seed in range(12):
            singles = [random_chances(source, 4, high=3) for _ in range(4)]
            vectors = random_vectors(source, singles)
            factors = {(0, 1): Fraction(1, 90), (1, 2): Fraction(1, 90), (2, 3): Fraction(1, 90)}
            tilts = Tilts(linked_sights(singles, vectors, factors), 0)
            for x, y in itertools.product(look_spots(tilts.sights, 0), look_spots(tilts.sights, 3)):
                wanted = Fraction(1, 90) * vectors[0][x[1]] * vectors[3][y[1]]
                self.assertEqual(tilts.told(x, y), ratio(wanted))

    def test_told_tables_have_the_singles(self):
        sights = random_web_sights(2300, (2, 3, 3), [(0, 1), (1, 2)], scale=60)
        table = Tilts(sights, 0).told_table(2, 1)
        self.assertEqual(table, sights.table((1, 2)))
        for row, entry in zip(rows((1, 2), sights.sizes), table.entries):
            x, y = (1, row[0]), (2, row[1])
            self.assertEqual(fraction(entry), single(sights, x) * single(sights, y)
                             * (1 + fraction(Tilts(sights, 0).told(x, y))))

    def test_larger_lots_count_by_their_pairs(self):
        world = random_world(2301, (2, 3, 2), 2, low=1)
        one = Tilts(world.sights_of([(0, 1, 2)]), 0)
        two = Tilts(world.sights_of([(0, 1), (1, 2), (0, 2)]), 0)
        found = [(tilts.heights(), tilts.base, tilts.told_table(0, 2).entries) for tilts in (one, two)]
        self.assertEqual(found[0], found[1])


class WrongTest(unittest.TestCase):

    def setUp(self):
        self.sights = Sights([HALF] * 6, seen=[((0, 1), FAR), ((2, 3), FAR), ((3, 4), FAR), ((2, 4), FAR)])
        self.sided, self.ringed = Tilts(self.sights, 0), Tilts(self.sights, 1)

    def test_pieces(self):
        for number in NO_INTEGERS + [2, -1]:
            with self.assertRaises(BadPiece):
                Tilts(self.sights, number)
        with self.assertRaises(BadPiece):
            Tilts(Sights([HALF]), 0)

    def test_a_bad_piece_is_told_before_a_clash(self):
        clash = Sights([HALF] * 3, seen=[((0, 1), FAR), ((1, 2), FAR), ((0, 2), QUARTERS)])
        with self.assertRaises(BadPiece):
            Tilts(clash, 1)
        with self.assertRaises(Clash):
            Tilts(clash, 0)

    def test_the_clash_of_another_piece_does_not_matter(self):
        seen = [((0, 1), FAR), ((2, 3), FAR), ((3, 4), FAR), ((2, 4), QUARTERS)]
        sights = Sights([HALF] * 5, seen=seen)
        self.assertEqual(Tilts(sights, 0).looks, (0, 1))
        with self.assertRaises(Clash) as caught:
            Tilts(sights, 1)
        self.assertEqual(caught.exception.reason, ("apart", 2, 4))

    def test_spots_are_judged_then_the_piece_then_the_ring(self):
        for spot in (None, (0, 2), (6, 0), (0,), (True, 0), "00"):
            for call in (self.sided.tilt, self.sided.leaning, self.ringed.tilt, self.ringed.leaning):
                with self.assertRaises(BadSpot):
                    call(spot)
            for tilts in (self.sided, self.ringed):
                for pair in ((spot, (5, 0)), ((5, 0), spot), (spot, (0, 0))):
                    with self.assertRaises(BadSpot):
                        tilts.told(*pair)
        for tilts, inside, outside in ((self.sided, (1, 0), (2, 0)), (self.ringed, (2, 0), (1, 0)),
                                       (self.sided, (0, 0), (5, 1))):
            for call in (tilts.tilt, tilts.leaning):
                with self.assertRaises(OtherPiece):
                    call(outside)
            for pair in ((inside, outside), (outside, inside), (outside, outside)):
                with self.assertRaises(OtherPiece):
                    tilts.told(*pair)
        with self.assertRaises(IsRinged):
            self.ringed.tilt((2, 0))

    def test_looks(self):
        for look in NO_INTEGERS + [6, -1]:
            for pair in ((look, 0), (0, look), (5, look), (look, 5)):
                with self.assertRaises(BadLook):
                    self.sided.told_table(*pair)
        for pair in ((0, 2), (2, 0), (5, 0), (5, 5), (1, 2), (1, 5), (5, 1), (2, 3)):
            with self.assertRaises(OtherPiece):
                self.sided.told_table(*pair)
        for pair in ((0, 2), (0, 3), (4, 1), (3, 5), (5, 5)):
            with self.assertRaises(OtherPiece):
                self.ringed.told_table(*pair)
        late = Tilts(Sights([HALF] * 5, seen=[((0, 1), FAR), ((2, 3), FAR)]), 1)
        for pair in ((0, 2), (3, 1), (4, 3), (0, 3)):
            with self.assertRaises(OtherPiece):
                late.told_table(*pair)


if __name__ == "__main__":
    unittest.main()
