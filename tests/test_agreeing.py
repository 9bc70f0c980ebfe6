"""Points 34 and 35 and the interface of hiddensorts/agreeing.py; the reasons that Tilts raises."""

import collections
import itertools
import random
import unittest
from fractions import Fraction

from hiddensorts.agreeing import pairs_agree, reason
from hiddensorts.errors import BadTable, Clash
from hiddensorts.sights import Sights
from hiddensorts.tilts import Tilts
from hiddensorts.webs import Web
from tests.oracles import agree_by_definition, holds_reason, linked_sights, random_web_sights
from tests.tools import FAR, HALF, NEAR, QUARTERS, as_it_looks, random_chances, random_world

THIRD = [(1, 3)] * 3
# Links of rank 2: both looks of three answers, each answer bound to one other.
BOUND = [(2, 9), (1, 18), (1, 18), (1, 18), (2, 9), (1, 18), (1, 18), (1, 18), (2, 9)]
ODD_LINKS = [(3, 16), (5, 16), (5, 16), (3, 16)]


def plain(why):
    """Whether a reason is a tuple of a word and plain tuples."""
    return type(why) is tuple and type(why[0]) is str and as_it_looks(why[1:])


class AgreeingTest(unittest.TestCase):

    def check(self, sights):
        why = reason(sights)
        self.assertEqual(why is None, agree_by_definition(sights))
        self.assertIs(pairs_agree(sights), why is None)
        if why is not None:
            self.assertTrue(plain(why) and holds_reason(sights, why), why)
        for number, piece in enumerate(Web(sights).pieces):
            if agree_by_definition(sights, piece):
                Tilts(sights, number)
                continue
            with self.assertRaises(Clash) as caught:
                Tilts(sights, number)
            found = caught.exception.reason
            self.assertTrue(plain(found) and holds_reason(sights, found, piece), found)
        return why and why[0]

    def test_pairs_of_worlds_agree(self):
        for seed, lots in enumerate(([(0, 1)], [(0, 1), (1, 2), (2, 3)], [(0, 1), (1, 2), (0, 2)], [(0, 1, 2), (2, 3)],
                                     [(0, 1, 2, 3)], [])):
            for low, alike in ((0, 0), (1, 1), (0, 2)):
                sights = random_world(1000 + seed, (2, 3, 2, 2), 2, low=low, alike=alike).sights_of(lots)
                self.assertIsNone(reason(sights))
                self.assertIs(pairs_agree(sights), True)

    def test_factors_that_fit_or_do_not(self):
        source = random.Random(1001)
        words = collections.Counter()
        for seed in range(70):
            many = source.choice((3, 4, 4))
            pairs = list(itertools.combinations(range(many), 2))
            pairs = source.sample(pairs, source.randint(2, len(pairs)))
            pick = source.choice(((1,), (1, 1, 1, 1, 2), (-1,), (1, -1)))
            try:
                sights = random_web_sights(1002 + seed, [source.choice((2, 2, 3))] * many, pairs, pick=pick, scale=60)
            except BadTable:
                continue
            words[self.check(sights)] += 1
        self.assertGreater(min(words[word] for word in (None, "walks", "ring")), 3)

    def test_a_look_must_split_one_way(self):
        # Each pair has rank 1, but the look in the middle is split otherwise by its second neighbour.
        singles = [HALF, THIRD, HALF]
        one, two = [1, -1], [1, -1]
        for middle, other in (([1, -1, 0], [0, 1, -1]), ([1, -1, 0], [-1, 1, 0]), ([2, -1, -1], [1, 1, -2])):
            first = linked_sights(singles, [one, middle, two], {(0, 1): Fraction(1, 4)})
            entries = linked_sights(singles, [one, other, two], {(1, 2): Fraction(1, 4)}).table((1, 2)).entries
            sights = first.adding((1, 2), entries)
            self.assertEqual(self.check(sights), None if other == [-1, 1, 0] else "walks")

    def test_whichever_look_is_split_two_ways(self):
        # The looks keep their names but change their numbers: the one that is split two ways is of side A or side B.
        one, middle, other = [1, -1], [1, -1, 0], [1, 1, -2]
        for order in itertools.permutations(range(3)):
            singles = [None] * 3
            for place, chances in zip(order, (HALF, THIRD, HALF)):
                singles[place] = chances
            seen = []
            for end, vector in ((order[0], middle), (order[2], other)):
                vectors = [one] * 3
                vectors[order[1]] = vector
                pair = tuple(sorted([end, order[1]]))
                seen.append((pair, linked_sights(singles, vectors, {pair: Fraction(1, 4)}).table(pair).entries))
            self.assertEqual(self.check(Sights(singles, seen=seen)), "walks")
            self.assertIsNone(self.check(Sights(singles, seen=seen[:1])))

    def test_rank(self):
        sights = Sights([THIRD, THIRD, HALF], seen=[((0, 1), BOUND)])
        self.assertEqual(self.check(sights), "rank")

    def test_a_reason_of_rank_comes_first(self):
        # Pieces (0, 1), apart from each other and with unlike walks before it, and the piece of rank 2 last.
        singles = [HALF, HALF, HALF, HALF, THIRD, THIRD]
        seen = [((0, 1), FAR), ((2, 3), FAR), ((0, 2), QUARTERS), ((4, 5), BOUND)]
        sights = Sights(singles, seen=seen)
        self.assertEqual(self.check(sights), "rank")
        ring = [((0, 1), FAR), ((1, 2), FAR), ((0, 2), ODD_LINKS), ((4, 5), BOUND)]
        self.assertEqual(self.check(Sights(singles, seen=ring)), "rank")
        self.assertEqual(self.check(Sights(singles, seen=ring[:3])), "ring")
        even = [((0, 1), FAR), ((1, 2), FAR), ((2, 3), FAR), ((0, 3), NEAR), ((4, 5), BOUND)]
        self.assertEqual(self.check(Sights(singles, seen=even)), "rank")
        self.assertEqual(self.check(Sights(singles, seen=even[:4])), "walks")

    def test_rank_comes_first_within_a_piece(self):
        singles = [HALF, HALF, HALF, THIRD, THIRD]
        mixed = [(1, 4), (1, 6), (1, 12), (1, 12), (1, 6), (1, 4)]
        seen = [((0, 1), FAR), ((1, 2), FAR), ((0, 2), ODD_LINKS), ((2, 3), mixed), ((3, 4), BOUND),
                ((0, 3), [(1, 6)] * 6)]
        sights = Sights(singles, seen=seen)
        self.assertEqual(self.check(sights), "rank")
        with self.assertRaises(Clash) as caught:
            Tilts(sights, 0)
        self.assertEqual(caught.exception.reason[0], "rank")

    def test_apart(self):
        seen = [((0, 1), FAR), ((1, 2), FAR), ((0, 2), QUARTERS)]
        sights = Sights([HALF] * 3, seen=seen)
        self.assertEqual(reason(sights), ("apart", 0, 2))
        with self.assertRaises(Clash) as caught:
            Tilts(sights, 0)
        self.assertEqual(caught.exception.reason, ("apart", 0, 2))

    def test_apart_in_two_pieces(self):
        seen = [((0, 3), FAR), ((1, 2), FAR), ((2, 3), QUARTERS)]
        sights = Sights([HALF] * 4, seen=seen)
        self.assertEqual(reason(sights), ("apart", 2, 3))
        # The pairs of each piece alone agree.
        for number in range(2):
            self.assertEqual(Tilts(sights, number).looks, ((0, 3), (1, 2))[number])

    def test_unlinked_pairs_with_loners_are_no_reason(self):
        seen = [((0, 1), FAR), ((0, 2), QUARTERS), ((1, 2), QUARTERS), ((2, 3), QUARTERS)]
        self.assertIsNone(reason(Sights([HALF] * 4, seen=seen)))
        self.assertIsNone(reason(Sights([HALF] * 4, seen=seen[1:])))

    def test_ring(self):
        seen = [((0, 1), FAR), ((1, 2), FAR), ((0, 2), ODD_LINKS)]
        why = reason(Sights([HALF] * 3, seen=seen))
        self.assertEqual((why[0], why[1]), ("ring", (0, 0)))
        self.assertEqual(len(why[2]), 4)

    def test_an_even_ring(self):
        seen = [((0, 1), FAR), ((1, 2), FAR), ((2, 3), FAR)]
        fits = Sights([HALF] * 4, seen=seen + [((0, 3), FAR)])
        fits_not = Sights([HALF] * 4, seen=seen + [((0, 3), NEAR)])
        self.assertEqual((self.check(fits), self.check(fits_not)), (None, "walks"))
        turned = Sights([HALF] * 4, seen=seen + [((0, 3), ODD_LINKS)])
        self.assertEqual(self.check(turned), "walks")

    def test_two_odd_rings(self):
        ring = [((0, 1), FAR), ((1, 2), FAR), ((0, 2), FAR)]
        far_ring = [((3, 4), FAR), ((4, 5), FAR), ((3, 5), FAR)]
        join = [((2, 3), [(9, 32), (7, 32), (7, 32), (9, 32)])]
        self.assertEqual(self.check(Sights([HALF] * 6, seen=ring + far_ring + join)), "walks")
        self.assertIsNone(self.check(Sights([HALF] * 6, seen=ring + far_ring + [((2, 3), FAR)])))
        self.assertIsNone(self.check(Sights([HALF] * 6, seen=ring + far_ring + [((2, 3), ODD_LINKS)])))
        common = [((2, 3), FAR), ((3, 4), FAR), ((2, 4), FAR)]
        self.assertIsNone(self.check(Sights([HALF] * 5, seen=ring + common)))
        self.assertEqual(self.check(Sights([HALF] * 5, seen=ring + common[:2] + [((2, 4), NEAR)])), "walks")

    def test_larger_lots_count_by_their_pairs(self):
        quarter = (1, 4)
        parity = [quarter, 0, 0, quarter, 0, quarter, quarter, 0]
        self.assertIsNone(reason(Sights([HALF] * 3, seen=[((0, 1, 2), parity)])))
        three_sorts = random_world(1005, (3, 3, 2), 3, low=0).sights_of([(0, 1, 2)])
        self.assertEqual(self.check(three_sorts), "rank")

    def test_three_sorts_of_two_answers(self):
        words = collections.Counter()
        for seed in range(8):
            world = random_world(1010 + seed, (2, 2, 2, 2), 3, low=0)
            words[self.check(world.sights_of([(0, 1), (1, 2), (2, 3), (0, 3), (0, 2)]))] += 1
        self.assertGreater(words["walks"] + words["ring"], 3)

    def test_random_tables(self):
        source = random.Random(1004)
        for _ in range(12):
            singles = [random_chances(source, size, low=2) for size in (2, 3, 2)]
            sights = Sights(singles, seen=[((0, 1), self.table(source, singles, 0, 1)),
                                           ((1, 2), self.table(source, singles, 1, 2))])
            self.check(sights)

    def table(self, source, singles, look, other):
        """A table with these singles: the product table, moved along one square of rows and columns."""
        rows, columns = len(singles[look]), len(singles[other])
        entries = [[Fraction(*a) * Fraction(*b) for b in singles[other]] for a in singles[look]]
        for _ in range(2):
            a, b = source.sample(range(rows), 2)
            c, d = source.sample(range(columns), 2)
            step = min(entries[a][d], entries[b][c]) / 2
            entries[a][c], entries[b][d] = entries[a][c] + step, entries[b][d] + step
            entries[a][d], entries[b][c] = entries[a][d] - step, entries[b][c] - step
        return [(entry.numerator, entry.denominator) for row in entries for entry in row]

    def test_nothing_is_changed_and_equal_sights_give_equal_reasons(self):
        seen = [((0, 1), FAR), ((1, 2), FAR), ((2, 3), FAR), ((0, 3), NEAR)]
        sights = Sights([HALF] * 4, seen=seen)
        self.assertEqual(reason(sights), reason(Sights([HALF] * 4, seen=seen)))
        self.assertEqual(sights, Sights([HALF] * 4, seen=seen))


if __name__ == "__main__":
    unittest.main()
