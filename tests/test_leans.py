"""Points 76, 78 and 82 and the interface of hiddensorts/leans.py."""

import itertools
import random
import unittest
from fractions import Fraction

from hiddensorts.errors import BadPiece, BadSpot, BadTable, Clash, NoThree, OtherPiece
from hiddensorts.leans import Leans, has_three
from hiddensorts.sights import Sights
from hiddensorts.tilts import Tilts
from hiddensorts.webs import Web
from hiddensorts.worlds import World
from tests.oracles import holds_reason, linked_sights, made_link, numbers_of, random_vectors
from tests.test_frames import piece_spots
from tests.threes import holds_lean_reason, leaned_entries, leaned_sights, told_by_threes
from tests.tools import FAR, HALF, NO_INTEGERS, QUARTERS, as_it_looks, fraction, random_chances, random_world, ratio

THIRD = [(1, 3), (2, 3)]
ROW = [(11, 108), (7, 108), (7, 108), (11, 108), (7, 108), (11, 108), (11, 108), (43, 108)]
LOTS = [[(0, 1, 2)], [(0, 1, 2), (2, 3)], [(0, 1, 2), (1, 2, 3)], [(0, 1, 2, 3)], [(1, 2, 3), (0, 3)],
        [(0, 1), (1, 2), (0, 2), (1, 2, 3)]]
SIZES = (2, 3, 2, 3)
FIVE = [[1, -1]] * 5


def loose_world(seed, sizes, lots):
    """A world of two sorts that is not fair though its tables of these lots are."""
    source = random.Random(seed)
    while True:
        world = random_world(source.randint(0, 10 ** 9), sizes, 2, low=-1)
        if not world.fair and all(world.made(lot).fair for lot in lots):
            return world


def worlds_with_threes():
    for seed, lots in enumerate(LOTS):
        for low, alike in ((1, 0), (0, 0), (1, 1)):
            yield random_world(7000 + 7 * seed + low + alike, SIZES, 2, low=low, alike=alike), lots
        yield loose_world(7100 + seed, SIZES, lots), lots


def pieces_with_threes():
    """Worlds, their sights and the numbers of the pieces of these that have a three."""
    for world, lots in worlds_with_threes():
        sights = world.sights_of(lots)
        for number, piece in enumerate(Web(sights).pieces):
            if any(len(set(lot) & set(piece)) >= 3 for lot in lots):
                yield world, sights, number


def by_base(world, base):
    """The world, its sorts numbered so that the split of the base spot is above 0."""
    above = fraction(world.chance_at(0, base)) > fraction(world.chance_at(1, base))
    return world if above else world.renamed((1, 0))


class LeansTest(unittest.TestCase):

    def test_what_the_world_has(self):
        many = 0
        for world, sights, number in pieces_with_threes():
            leans = Leans(sights, number)
            self.assertIs(leans.sights, sights)
            self.assertEqual((leans.number, leans.looks), (number, Web(sights).pieces[number]))
            self.assertIs(type(leans.tilts), Tilts)
            self.assertEqual((leans.tilts.number, leans.tilts.ringed), (number, True))
            world = by_base(world, leans.tilts.base)
            spots = piece_spots(leans.tilts)
            self.assertEqual(leans.balance(), ratio(fraction(world.chances[0]) * fraction(world.chances[1])))
            for x in spots:
                _, lean, bend, _ = numbers_of(world, x)
                self.assertEqual((leans.lean(list(x)), leans.bend(x)), (ratio(lean), ratio(bend)))
                self.assertTrue(as_it_looks((leans.lean(x), leans.bend(x))))
            for x, y in itertools.product(spots, repeat=2):
                self.assertEqual(leans.link(x, list(y)), ratio(made_link(world, x, y)))
            self.check_facts(leans, spots)
            many += 1
        self.assertGreater(many, 16)

    def check_facts(self, leans, spots):
        balance = fraction(leans.balance())
        b = {x: fraction(leans.lean(x)) for x in spots}
        told = {(x, y): fraction(leans.link(x, y)) for x in spots for y in spots}
        for x, y in told:
            if told[x, y] != 0:
                self.assertEqual(1 / balance, 4 + b[x] * b[y] / told[x, y])
            self.assertEqual(fraction(leans.bend(x)), 1 + b[x] - told[x, x])
            for z in spots[::2]:
                self.assertEqual(b[x] * told[y, z], b[y] * told[x, z])
        for look in leans.looks:
            self.assertEqual(sum(fraction(leans.sights.single(x)) * b[x] for x in spots if x[0] == look), 0)

    def test_example(self):
        sights = Sights([THIRD] * 3, seen=[((0, 1, 2), ROW)])
        leans = Leans(sights, 0)
        self.assertEqual([leans.lean((0, 0)), leans.balance(), leans.bend((0, 1))], [(1, 2), (2, 9), (5, 8)])

    def test_leans_of_looks_in_no_three(self):
        # Look 3 is linked with look 2 alone; its lean goes by its reach.
        world = random_world(7201, (2, 2, 3, 3), 2, low=1)
        sights = world.sights_of([(0, 1, 2), (2, 3)])
        leans = Leans(sights, 0)
        world = by_base(world, leans.tilts.base)
        self.assertEqual(leans.looks, (0, 1, 2, 3))
        for answer in range(3):
            self.assertEqual(leans.lean((3, answer)), ratio(numbers_of(world, (3, answer))[1]))

    def test_real_worlds(self):
        # 1 - 4 balance is no square here, so no world in ratios is behind; the leans are told all the same.
        vectors = [[1, -1], [1, -1], [1, -1]]
        leans = Leans(leaned_sights([HALF] * 3, vectors, (Fraction(1, 5)), Fraction(1, 7), [(0, 1, 2)]), 0)
        self.assertEqual([leans.lean((look, answer)) for look in range(3) for answer in range(2)],
                         [(1, 7), (-1, 7)] * 3)
        self.assertEqual(leans.balance(), ratio(1 / (4 + Fraction(5, 49))))
        self.assertEqual((leans.bend((0, 0)), leans.bend((0, 1))), (ratio(1 + Fraction(1, 7) - Fraction(1, 5)),
                                                                    ratio(1 - Fraction(1, 7) - Fraction(1, 5))))

    def test_leans_of_0(self):
        leans = Leans(leaned_sights([HALF] * 3, [[1, -1]] * 3, Fraction(1, 4), 0, [(0, 1, 2)]), 0)
        self.assertEqual((leans.balance(), leans.lean((0, 0)), leans.bend((1, 1))), ((1, 4), (0, 1), (3, 4)))
        for world, sights, number in pieces_with_threes():
            told = told_by_threes(sights, Web(sights).pieces[number])
            equal = Leans(sights, number).balance() == (1, 4)
            self.assertEqual(all(values == {0} for values in told.values()), equal)
            self.assertEqual(equal, world.chances == ((1, 2), (1, 2)))

    def test_spots_of_reach_0(self):
        singles = [[(1, 4), (1, 4), (1, 2)], HALF, HALF]
        vectors = [[0, -2, 1], [1, -1], [1, -1]]
        leans = Leans(leaned_sights(singles, vectors, Fraction(1, 5), Fraction(-1, 9), [(0, 1, 2)]), 0)
        self.assertEqual(leans.tilts.base, (0, 1))
        self.assertEqual([leans.lean((0, answer)) for answer in range(3)], [(0, 1), (2, 9), (-1, 9)])

    def test_dumb_looks_in_seen_lots(self):
        world = random_world(7300, (2, 2, 2, 2, 2), 2, low=1, alike=2)
        sights = world.sights_of([(0, 2, 3, 4), (0, 1), (1, 2)])
        leans = Leans(sights, 0)
        self.assertEqual((leans.looks, has_three(sights, 0)), ((2, 3, 4), True))
        self.assertEqual(leans.balance(), ratio(fraction(world.chances[0]) * fraction(world.chances[1])))


class ThreeTest(unittest.TestCase):

    def test_has_three(self):
        world = World([(1, 2), (1, 2)], [[[(3, 4), (1, 4)]] * 6, [[(1, 4), (3, 4)]] * 6])
        for lots, wanted in (([(0, 1)], [False]), ([(0, 1), (1, 2), (0, 2)], [False]), ([(0, 1, 2)], [True]),
                             ([(0, 1), (2, 3, 4)], [False, True]), ([(0, 1, 2, 3), (4, 5)], [True, False])):
            sights = world.sights_of(lots)
            self.assertEqual([has_three(sights, number) for number in range(len(wanted))], wanted)
            for number in NO_INTEGERS + [-1, len(wanted)]:
                for call in (has_three, Leans):
                    with self.assertRaises(BadPiece):
                        call(sights, number)

    def test_a_lot_of_three_with_a_loner_is_no_three(self):
        world = World([(1, 2), (1, 2)], [[[(3, 4), (1, 4)]] * 2 + [HALF], [[(1, 4), (3, 4)]] * 2 + [HALF]])
        sights = world.sights_of([(0, 1, 2)])
        self.assertIs(has_three(sights, 0), False)
        with self.assertRaises(NoThree):
            Leans(sights, 0)

    def test_no_three_is_told_before_a_clash(self):
        sights = Sights([HALF] * 3, seen=[((0, 1), FAR), ((1, 2), FAR), ((0, 2), QUARTERS)])
        with self.assertRaises(NoThree):
            Leans(sights, 0)
        with self.assertRaises(BadPiece):
            Leans(sights, 1)


class ClashTest(unittest.TestCase):

    def refused(self, sights, number, word):
        with self.assertRaises(Clash) as caught:
            Leans(sights, number)
        why = caught.exception.reason
        self.assertEqual(why[0], word)
        self.assertTrue(as_it_looks(why[1:]))
        if word in ("lean", "lot"):
            self.assertTrue(holds_lean_reason(sights, number, Tilts(sights, number), why), why)
        else:
            self.assertTrue(holds_reason(sights, why, Web(sights).pieces[number]))
        return why

    def five(self, lots, skews, *, share=Fraction(1, 6)):
        """Sights of five looks alike; each lot has leans of its own."""
        seen = [(lot, leaned_entries([HALF] * 5, FIVE, share, skew, lot)) for lot, skew in zip(lots, skews)]
        return Sights([HALF] * 5, seen=seen)

    def test_pairs_that_do_not_agree(self):
        world = random_world(7401, (3, 3, 3), 3, low=0)
        self.refused(world.sights_of([(0, 1, 2)]), 0, "rank")
        quarter = Fraction(1, 4)
        ring = linked_sights([HALF] * 3, FIVE, {(0, 1): quarter, (0, 2): quarter, (1, 2): -quarter})
        entries = [ratio(Fraction(1, 8) * (1 + Fraction(1, 4) * (a * b + a * c - b * c)))
                   for a in (1, -1) for b in (1, -1) for c in (1, -1)]
        sights = Sights([HALF] * 3, seen=[((0, 1, 2), entries)])
        self.assertEqual(sights.table((1, 2)), ring.table((1, 2)))
        self.refused(sights, 0, "ring")

    def test_two_leans_of_one_spot(self):
        sights = self.five([(0, 1, 2), (0, 1, 3)], (Fraction(1, 5), Fraction(1, 4)))
        why = self.refused(sights, 0, "lean")
        self.assertEqual(why[1], why[2])
        # Within one three: looks of three answers whose twists are no product.
        source = random.Random(7402)
        singles = [random_chances(source, 3, high=3) for _ in range(3)]
        vectors = random_vectors(source, singles)
        entries = [fraction(entry) for entry in leaned_entries(singles, vectors, Fraction(1, 90), 0, (0, 1, 2))]
        for signs in itertools.product((0, 1), repeat=3):
            place = signs[0] * 9 + signs[1] * 3 + signs[2]
            entries[place] += Fraction((-1) ** sum(signs), 500)
        why = self.refused(Sights(singles, seen=[((0, 1, 2), [ratio(entry) for entry in entries])]), 0, "lean")
        self.assertEqual(why[1], why[2])

    def test_leans_of_two_spots(self):
        singles = [HALF] * 6
        seen = [(lot, leaned_entries(singles, [[1, -1]] * 6, Fraction(1, 6), skew, lot))
                for lot, skew in (((0, 1, 2), Fraction(1, 5)), ((3, 4, 5), Fraction(1, 4)), ((2, 3), 0))]
        why = self.refused(Sights(singles, seen=seen), 0, "lean")
        self.assertLess(why[1], why[2])

    def test_a_lean_against_its_reach(self):
        # Look 0 has a spot of reach 0 to which the three tells a lean that is not 0.
        singles = [[(1, 3)] * 3, HALF, HALF]
        vectors, other = [[1, -1, 0], [1, -1], [1, -1]], [[1, 1, -2], [1, -1], [1, -1]]
        entries = []
        for answers in itertools.product(range(3), range(2), range(2)):
            d = [vectors[look][answer] for look, answer in enumerate(answers)]
            e = [other[look][answer] for look, answer in enumerate(answers)]
            links = Fraction(1, 6) * (d[0] * d[1] + d[0] * d[2] + d[1] * d[2])
            entries.append(ratio(Fraction(1, 12) * (1 + links + Fraction(1, 20) * e[0] * e[1] * e[2])))
        self.refused(Sights(singles, seen=[((0, 1, 2), entries)]), 0, "lean")

    def test_lots_that_are_not_as_made(self):
        entries = [fraction(entry) for entry in leaned_entries([HALF] * 4, FIVE, Fraction(1, 6), Fraction(1, 5),
                                                               (0, 1, 2, 3))]
        for place, answers in enumerate(itertools.product((0, 1), repeat=4)):
            entries[place] += Fraction((-1) ** sum(answers), 200)
        sights = Sights([HALF] * 4, seen=[((0, 1, 2, 3), [ratio(entry) for entry in entries])])
        why = self.refused(sights, 0, "lot")
        self.assertEqual(why[1:], ((0, 1, 2, 3), (0, 0, 0, 0)))

    def test_the_first_row_that_is_not_as_made(self):
        # Answer 0 of look 0 has no part in what is moved, so the first rows are as made.
        singles = [[(1, 4), (1, 4), (1, 2)]] + [HALF] * 3
        vectors = [[1, 1, -1], [1, -1], [1, -1], [1, -1]]
        entries = [fraction(entry) for entry in leaned_entries(singles, vectors, Fraction(1, 6), Fraction(1, 5),
                                                               (0, 1, 2, 3))]
        for place, answers in enumerate(itertools.product((0, 1, 2), (0, 1), (0, 1), (0, 1))):
            if answers[0] > 0:
                entries[place] += Fraction((-1) ** sum(answers), 400)
        sights = Sights(singles, seen=[((0, 1, 2, 3), [ratio(entry) for entry in entries])])
        why = self.refused(sights, 0, "lot")
        self.assertEqual(why[1:], ((0, 1, 2, 3), (1, 0, 0, 0)))

    def test_a_lot_with_a_look_outside_that_is_not_dumb_there(self):
        # Two looks of the piece and a loner that comes with their parity: each pair is as it should be.
        entries = [Fraction(1, 8) * (1 + Fraction(1, 6) * a * b + Fraction(1, 3) * a * b * c)
                   for a in (1, -1) for b in (1, -1) for c in (1, -1)]
        three = leaned_entries([HALF] * 4, FIVE, Fraction(1, 6), 0, (0, 1, 2))
        seen = [((0, 1, 2), three), ((0, 1, 3), [ratio(entry) for entry in entries])]
        sights = Sights([HALF] * 4, seen=seen)
        self.assertEqual(Web(sights).pieces, ((0, 1, 2),))
        why = self.refused(sights, 0, "lot")
        self.assertEqual(why[1:], ((0, 1, 3), (0, 0, 0)))

    def test_lots_with_one_look_of_the_piece(self):
        entries = [Fraction(1, 8) * (1 + Fraction(1, 3) * a * b * c) for a in (1, -1) for b in (1, -1) for c in (1, -1)]
        three = leaned_entries([HALF] * 5, FIVE, Fraction(1, 6), 0, (0, 1, 2))
        sights = Sights([HALF] * 5, seen=[((0, 1, 2), three), ((2, 3, 4), [ratio(entry) for entry in entries])])
        why = self.refused(sights, 0, "lot")
        self.assertEqual(why[1:], ((2, 3, 4), (0, 0, 0)))
        # A lot without a look of the piece is not one of its lots.
        singles = [HALF] * 6
        sights = Sights(singles, seen=[((0, 1, 2), three), ((3, 4, 5), [ratio(entry) for entry in entries])])
        self.assertEqual(Leans(sights, 0).balance(), (1, 4))

    def test_random_perturbed_tables(self):
        source, words = random.Random(7403), []
        for _ in range(40):
            many = source.choice((3, 4))
            singles = [HALF] * many
            lots = [(0, 1, 2), (1, 2, 3)] if many == 4 and source.random() < 0.5 else [tuple(range(many))]
            seen = [(lot, leaned_entries(singles, FIVE, Fraction(1, 6), source.choice((0, Fraction(1, 5))), lot))
                    for lot in lots]
            try:
                sights = Sights(singles, seen=seen)
            except BadTable:
                continue
            try:
                Leans(sights, 0)
                words.append("good")
            except Clash as error:
                words.append(error.reason[0])
                self.assertTrue(holds_lean_reason(sights, 0, Tilts(sights, 0), error.reason))
        self.assertGreater(min(words.count("good"), words.count("lean")), 2)


class WrongTest(unittest.TestCase):

    def test_spots(self):
        three = leaned_entries([HALF] * 3, FIVE, Fraction(1, 6), 0, (0, 1, 2))
        leans = Leans(Sights([HALF] * 6, seen=[((0, 1, 2), three), ((3, 4), FAR)]), 0)
        for call in (leans.lean, leans.bend, lambda x: leans.link(x, (0, 0)), lambda x: leans.link((0, 0), x)):
            for spot in (None, (6, 0), (0, 2), (0,), (True, 0), "00"):
                with self.assertRaises(BadSpot):
                    call(spot)
            for spot in ((3, 0), [5, 1]):
                with self.assertRaises(OtherPiece):
                    call(spot)
        with self.assertRaises(OtherPiece):
            leans.link((3, 0), None)
        with self.assertRaises(BadSpot):
            leans.link(None, (3, 0))


if __name__ == "__main__":
    unittest.main()
