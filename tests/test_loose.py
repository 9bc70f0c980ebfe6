"""Points 38 to 42 and the interface of hiddensorts/loose.py and hiddensorts/roots.py."""

import itertools
import random
import unittest
from fractions import Fraction

from hiddensorts.errors import (BadNumber, BadSpot, Clash, IsRinged, IsTold, NeedsRoot, NeedsRoots, OtherPiece)
from hiddensorts.loose import two_worlds, world_at, world_of_all, world_with
from hiddensorts.ratios import root_of
from hiddensorts.roots import fits_chance, go_together, some_chance
from hiddensorts.sights import Sights
from hiddensorts.tilts import Tilts
from hiddensorts.webs import Web
from hiddensorts.worlds import World
from tests.oracles import (holds_reason, is_piece_world, linked_sights, look_spots, made_link, makes_pairs, numbers_of,
                           random_vectors, random_web_sights, single)
from tests.tools import (FAR, HALF, NEAR, NO_NUMBERS, QUARTERS, fraction, random_chances, random_world, ratio, spots)

RING = [((0, 1), FAR), ((0, 2), FAR), ((1, 2), FAR)]
# Links 1/8, so a ring of these has told(x, x) 1/8 and goes with no ring of links 1/4.
WEAK = [(9, 32), (7, 32), (7, 32), (9, 32)]
NO_POSITIVES = NO_NUMBERS + [0, -1, (0, 1), (-1, 3)]
NO_OPEN_CHANCES = NO_POSITIVES + [1, 2, (2, 2), (5, 4)]


def sided_tilts(seed, *, sizes=(2, 3, 3, 2), pairs=((0, 1), (1, 2))):
    return Tilts(random_web_sights(seed, sizes, pairs, scale=60), 0)


def ringed_tilts(seed, *, sizes=(3, 2, 3, 2)):
    return Tilts(random_web_sights(seed, sizes, ((0, 1), (1, 2), (0, 2)), scale=60), 0)


def by_formula(tilts, s, t):
    """The two sorts of the world at (s, t), straight from point 39."""
    sorts = [[], []]
    for look, size in enumerate(tilts.sights.sizes):
        for sort, sign in ((0, 1), (1, -1)):
            chances = []
            for answer in range(size):
                m = single(tilts.sights, (look, answer))
                step = Fraction(0)
                if look in tilts.looks:
                    tilt = fraction(tilts.tilt((look, answer)))
                    rise, fall = (s, t) if look in tilts.sides[0] else (1 / t, 1 / s)
                    step = tilt * (rise if sort == 0 else fall)
                chances.append(ratio(m * (1 + sign * step)))
            sorts[sort].append(tuple(chances))
    return tuple(tuple(sort) for sort in sorts)


class SidedTest(unittest.TestCase):

    def test_world_at(self):
        for seed in range(6):
            tilts = sided_tilts(3000 + seed)
            for s, t in ((Fraction(1), Fraction(1)), (Fraction(1, 3), Fraction(5)), (Fraction(7, 2), Fraction(2, 9))):
                world = world_at(tilts, ratio(s), list(ratio(t)))
                self.assertEqual(world.chances, (ratio(t / (s + t)), ratio(s / (s + t))))
                self.assertEqual(world.sorts, by_formula(tilts, s, t))
                self.assertTrue(is_piece_world(world, tilts.sights, 0, tilts.base))
                d = numbers_of(world, tilts.base)[0]
                self.assertEqual((s, t), (fraction(world.chances[1]) * d, fraction(world.chances[0]) * d))
                self.check_links(tilts, world, s * t)

    def check_links(self, tilts, world, factor):
        for side, times in ((tilts.sides[0], factor), (tilts.sides[1], 1 / factor)):
            side_spots = [x for look in side for x in look_spots(tilts.sights, look)]
            for x, y in itertools.product(side_spots, repeat=2):
                wanted = times * fraction(tilts.tilt(x)) * fraction(tilts.tilt(y))
                self.assertEqual(made_link(world, x, y), wanted)

    def test_integers_serve(self):
        tilts = sided_tilts(3010)
        self.assertEqual(world_at(tilts, 2, 3), world_at(tilts, (4, 2), (6, 2)))

    def test_world_with(self):
        tilts = sided_tilts(3011)
        for p in ((1, 2), (1, 7), [5, 6]):
            world = world_with(tilts, p)
            self.assertEqual(world.chances[0], tuple(p))
            self.assertEqual(world, world_at(tilts, ratio((1 - fraction(p)) / fraction(p)), 1))
        self.assertEqual(some_chance(tilts), (1, 2))
        self.assertIs(fits_chance(tilts, (3, 7)), True)

    def test_two_worlds(self):
        tilts = sided_tilts(3012, pairs=((0, 1), (1, 2), (2, 3)))
        told = untold = 0
        for x, y in itertools.product(spots(tilts.sights.sizes), repeat=2):
            if tilts.told(x, y) is not None:
                with self.assertRaises(IsTold):
                    two_worlds(tilts, x, y)
                told += 1
                continue
            found = two_worlds(tilts, list(x), y)
            self.assertIs(type(found), tuple)
            for world in found:
                self.assertTrue(is_piece_world(world, tilts.sights, 0, tilts.base))
            self.assertNotEqual(made_link(found[0], x, y), made_link(found[1], x, y))
            untold += 1
        self.assertGreater(min(told, untold), 10)

    def test_a_spot_with_tilt_0_is_told(self):
        singles = [[(1, 4), (1, 4), (1, 2)], HALF]
        tilts = Tilts(linked_sights(singles, [[0, -2, 1], [1, -1]], {(0, 1): Fraction(1, 4)}), 0)
        with self.assertRaises(IsTold):
            two_worlds(tilts, (0, 0), (0, 1))
        self.assertEqual(len(two_worlds(tilts, (0, 1), (0, 1))), 2)


class RingedTest(unittest.TestCase):

    def test_example(self):
        ring = Tilts(Sights([HALF] * 3, seen=RING), 0)
        w = world_with(ring, (1, 5))
        self.assertEqual([w.sorts[0][2], w.sorts[1][2]], [((1, 1), (0, 1)), ((3, 8), (5, 8))])

    def test_worlds_and_needed_roots(self):
        fits = 0
        for seed in range(8):
            tilts = ringed_tilts(3100 + seed)
            own = fraction(tilts.told(tilts.base, tilts.base))
            # p (1 - p) own is a square for p = 1 / (1 + own c^2).
            fitting = [ratio(1 / (1 + own * c ** 2)) for c in (Fraction(1, 3), 2)]
            for p in [ratio(Fraction(k, 9)) for k in range(1, 9)] + [some_chance(tilts)] + fitting:
                number = fraction(p) * (1 - fraction(p)) * own
                root = root_of(ratio(number))
                self.assertIs(fits_chance(tilts, list(p)), root is not None)
                if root is None:
                    with self.assertRaises(NeedsRoot) as caught:
                        world_with(tilts, p)
                    self.assertEqual(caught.exception.number, ratio(number))
                    continue
                self.check_world(tilts, world_with(tilts, p), fraction(p), fraction(root))
                fits += 1
            self.assertEqual(fraction(some_chance(tilts)), 1 / (1 + own))
        self.assertGreaterEqual(fits, 24)

    def check_world(self, tilts, world, p, root):
        self.assertEqual(world.chances, (ratio(p), ratio(1 - p)))
        self.assertTrue(is_piece_world(world, tilts.sights, 0, tilts.base))
        own = fraction(tilts.told(tilts.base, tilts.base))
        for x in [x for look in tilts.looks for x in look_spots(tilts.sights, look)]:
            link, m = fraction(tilts.told(tilts.base, x)), single(tilts.sights, x)
            self.assertEqual(world.chance_at(0, x), ratio(m * (1 + link * root / (p * own))))
            self.assertEqual(world.chance_at(1, x), ratio(m * (1 - link * root / ((1 - p) * own))))
            self.assertIsNotNone(root_of(ratio(p * (1 - p) * fraction(tilts.told(x, x)))))

    def test_the_chances_of_a_world_fit(self):
        for seed in (3120, 3122, 3123, 3124):
            world = random_world(seed, (2, 3, 2), 2, low=0)
            tilts = Tilts(world.sights_of([(0, 1), (1, 2), (0, 2)]), 0)
            self.assertTrue(tilts.ringed)
            if fraction(world.chance_at(0, tilts.base)) < fraction(world.chance_at(1, tilts.base)):
                world = world.renamed((1, 0))
            self.assertTrue(fits_chance(tilts, world.chances[0]))
            self.assertEqual(world_with(tilts, world.chances[0]), world)

    def test_all_links_of_a_ringed_piece_are_told(self):
        tilts = ringed_tilts(3130)
        with self.assertRaises(IsTold):
            two_worlds(tilts, (0, 0), (0, 0))


class AllPiecesTest(unittest.TestCase):

    def check(self, sights):
        world = world_of_all(sights)
        web = Web(sights)
        self.assertEqual(len(world), 2)
        self.assertTrue(makes_pairs(world, sights, sights.pairs()))
        for look in web.loners:
            self.assertEqual(world.sorts[0][look], world.sorts[1][look])
        for number in range(len(web.pieces)):
            base = Tilts(sights, number).base
            self.assertGreater(fraction(world.chance_at(0, base)), fraction(world.chance_at(1, base)))
        self.assertIs(go_together(sights), True)
        return world

    def test_sided_ringed_and_loners(self):
        far_ring = [((3, 4), FAR), ((4, 5), FAR), ((3, 5), FAR)]
        self.check(Sights([HALF] * 8, seen=RING + far_ring + [((6, 7), NEAR)]))
        self.check(Sights([HALF] * 5, seen=RING + [((3, 4), NEAR)]))
        self.check(Sights([HALF] * 5, seen=[((3, 4), NEAR), ((0, 2), FAR), ((1, 2), QUARTERS)]))
        self.check(Sights([HALF] * 3, seen=[((0, 1), QUARTERS)]))
        self.check(Sights([HALF]))

    def test_random_pieces(self):
        for seed in range(6):
            singles = [random_chances(random.Random(3200 + seed), size, high=3) for size in (2, 3, 2, 3, 2)]
            vectors = random_vectors(random.Random(3300 + seed), singles)
            small = Fraction(1, 60)
            self.check(linked_sights(singles, vectors, {(0, 1): small, (0, 3): small, (1, 3): small, (2, 4): small}))

    def test_rings_that_do_not_go_together(self):
        far_ring = [((3, 4), WEAK), ((4, 5), WEAK), ((3, 5), WEAK)]
        for seen, y in ((RING + far_ring, (3, 0)), (far_ring + RING, (3, 0))):
            sights = Sights([HALF] * 6, seen=seen)
            self.assertIs(go_together(sights), False)
            with self.assertRaises(NeedsRoots) as caught:
                world_of_all(sights)
            self.assertEqual((caught.exception.x, caught.exception.y), ((0, 0), y))
            for number in range(2):
                self.assertEqual(len(world_with(Tilts(sights, number), some_chance(Tilts(sights, number)))), 2)

    def test_the_first_ring_that_does_not_go_with_the_first_one(self):
        # Rings of three looks with links k: told(x, x) is k, so 1/4 and 1/16 go together, and 1/8 with none of them.
        # The two first looks are a sided piece, which goes with all.
        def ring(first, top):
            table = [(top, 64), (32 - top, 64), (32 - top, 64), (top, 64)]
            return [((first, first + 1), table), ((first + 1, first + 2), table), ((first, first + 2), table)]
        sights = Sights([HALF] * 8, seen=[((0, 1), FAR)] + ring(2, 20) + ring(5, 17))
        self.assertIs(go_together(sights), True)
        self.check(sights)
        sights = Sights([HALF] * 8, seen=[((0, 1), FAR)] + ring(2, 20) + ring(5, 18))
        with self.assertRaises(NeedsRoots) as caught:
            world_of_all(sights)
        self.assertEqual((caught.exception.x, caught.exception.y), ((2, 0), (5, 0)))

    def test_a_later_ring(self):
        # Three rings need nine looks by threes, so here each ring's base spot is a look's second answer where it can.
        singles = [HALF, HALF, HALF, [(1, 4), (1, 4), (1, 2)], HALF, HALF]
        vectors = [[1, -1]] * 3 + [[0, -2, 1], [1, -1], [1, -1]]
        ring, weak = Fraction(1, 4), Fraction(1, 8)
        factors = {(0, 1): ring, (1, 2): ring, (0, 2): ring, (3, 4): weak, (4, 5): weak, (3, 5): weak}
        with self.assertRaises(NeedsRoots) as caught:
            world_of_all(linked_sights(singles, vectors, factors))
        self.assertEqual((caught.exception.x, caught.exception.y), ((0, 0), (3, 1)))

    def test_clash(self):
        for seen in (RING[:2] + [((1, 2), QUARTERS)], RING[:2] + [((1, 2), [(3, 16), (5, 16), (5, 16), (3, 16)])]):
            sights = Sights([HALF] * 3, seen=seen)
            for call in (world_of_all, go_together):
                with self.assertRaises(Clash) as caught:
                    call(sights)
                self.assertTrue(holds_reason(sights, caught.exception.reason))
        apart = Sights([HALF] * 4, seen=[((0, 1), FAR), ((2, 3), FAR), ((1, 2), QUARTERS)])
        for call in (world_of_all, go_together):
            with self.assertRaises(Clash) as caught:
                call(apart)
            self.assertEqual(caught.exception.reason, ("apart", 1, 2))


class WrongTest(unittest.TestCase):

    def setUp(self):
        self.sided, self.ringed = sided_tilts(3400), ringed_tilts(3401)

    def test_world_at(self):
        for value in NO_POSITIVES:
            for pair in ((value, 1), (1, value), (value, value)):
                with self.assertRaises(BadNumber):
                    world_at(self.sided, *pair)
                with self.assertRaises(IsRinged):
                    world_at(self.ringed, *pair)
        with self.assertRaises(IsRinged):
            world_at(self.ringed, 1, 1)

    def test_chances(self):
        for value in NO_OPEN_CHANCES:
            for call in (world_with, fits_chance):
                for tilts in (self.sided, self.ringed):
                    with self.assertRaises(BadNumber):
                        call(tilts, value)

    def test_two_worlds(self):
        for tilts in (self.sided, self.ringed):
            for pair in ((None, (3, 0)), ((3, 0), (0, 9)), ((0, 0), (True, 0))):
                with self.assertRaises(BadSpot):
                    two_worlds(tilts, *pair)
            for pair in (((3, 0), (0, 0)), ((0, 0), (3, 1))):
                with self.assertRaises(OtherPiece):
                    two_worlds(tilts, *pair)

    def test_worlds_are_worlds(self):
        self.assertIs(type(world_at(self.sided, 1, 1)), World)
        self.assertIs(type(world_with(self.ringed, some_chance(self.ringed))), World)


if __name__ == "__main__":
    unittest.main()
