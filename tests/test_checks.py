"""Points 43 to 45 and the interface of hiddensorts/checks.py."""

import itertools
import random
import unittest
from fractions import Fraction

from hiddensorts.agreeing import pairs_agree
from hiddensorts.checks import check_kind, least_pairs, pair_kind
from hiddensorts.errors import BadLook, NotLinked
from hiddensorts.sights import Sights
from hiddensorts.tilts import Tilts
from hiddensorts.webs import Web
from tests.oracles import link, linked_sights, look_spots, random_vectors
from tests.tools import (FAR, HALF, NEAR, NO_INTEGERS, QUARTERS, fraction, random_chances, random_world, ratio)


def sights_with(many, linked, unlinked=()):
    return Sights([HALF] * many, seen=[(pair, FAR) for pair in linked] + [(pair, QUARTERS) for pair in unlinked])


def kind_by_definition(web, look, other):
    """Point 43, word by word."""
    if web.walk(look, other, True) is not None or look in web.still or other in web.still:
        return "told"
    here, there = web.piece_of(look), web.piece_of(other)
    if -1 in (here, there):
        return "loner"
    if here == there:
        return "side"
    return "sign" if web.is_ringed(here) and web.is_ringed(there) else "join"


class PairKindTest(unittest.TestCase):

    def test_each_kind(self):
        # A sided piece (0, 1, 2), a ring (3, 4, 5), a still look 6 and a loner 7.
        web = Web(sights_with(8, [(0, 1), (1, 2), (3, 4), (4, 5), (3, 5)], [(2, 6)]))
        found = {pair: pair_kind(web, *pair) for pair in itertools.combinations(range(8), 2)}
        pairs = ((0, 1), (0, 2), (3, 4), (0, 3), (2, 5), (0, 6), (6, 7), (0, 7), (3, 7))
        self.assertEqual([found[pair] for pair in pairs],
                         ["told", "side", "told", "join", "join", "told", "told", "loner", "loner"])
        for (look, other), kind in found.items():
            self.assertEqual(pair_kind(web, other, look), kind)

    def test_signs_and_joins(self):
        ring = [(0, 1), (1, 2), (0, 2)]
        web = Web(sights_with(8, ring + [(3, 4), (4, 5), (3, 5), (6, 7)]))
        self.assertEqual([pair_kind(web, 2, 3), pair_kind(web, 2, 6), pair_kind(web, 7, 5), pair_kind(web, 6, 7)],
                         ["sign", "join", "join", "told"])
        two_sided = Web(sights_with(4, [(0, 1), (2, 3)]))
        self.assertEqual(pair_kind(two_sided, 0, 2), "join")

    def test_random_webs(self):
        source = random.Random(4000)
        for _ in range(25):
            many = source.randint(2, 8)
            pairs = list(itertools.combinations(range(many), 2))
            chosen = source.sample(pairs, source.randint(0, min(len(pairs), 8)))
            cut = source.randint(0, len(chosen))
            web = Web(sights_with(many, chosen[:cut], chosen[cut:]))
            for look, other in itertools.permutations(range(many), 2):
                self.assertEqual(pair_kind(web, look, other), kind_by_definition(web, look, other))

    def test_still_looks_are_those_seen_with_a_piece(self):
        web = Web(sights_with(4, [(0, 1)], [(2, 3)]))
        self.assertEqual((pair_kind(web, 2, 3), pair_kind(web, 0, 2)), ("loner", "loner"))


class CheckKindTest(unittest.TestCase):

    def test_an_even_ring(self):
        sights = sights_with(4, [(0, 1), (1, 2), (2, 3), (0, 3)])
        self.assertEqual({check_kind(sights, *pair) for pair in sights.linked()}, {"told"})

    def test_two_odd_rings_with_a_common_look(self):
        sights = sights_with(5, [(0, 1), (1, 2), (0, 2), (2, 3), (3, 4), (2, 4)])
        self.assertEqual({check_kind(sights, *pair) for pair in sights.linked()}, {"told"})

    def test_two_odd_rings_joined_by_a_path(self):
        ring, far_ring, path = [(0, 1), (1, 2), (0, 2)], [(4, 5), (5, 6), (4, 6)], [(2, 3), (3, 4)]
        sights = sights_with(7, ring + far_ring + path)
        self.assertEqual({pair: check_kind(sights, *pair) for pair in sights.linked()},
                         {**{pair: "told" for pair in ring + far_ring}, **{pair: "sign" for pair in path}})

    def test_none_is_checked_without_these(self):
        # A tree, one odd ring with branches, and two odd rings in two pieces.
        for many, linked in ((5, [(0, 1), (1, 2), (1, 3), (3, 4)]), (5, [(0, 1), (1, 2), (0, 2), (2, 3), (2, 4)]),
                             (6, [(0, 1), (1, 2), (0, 2), (3, 4), (4, 5), (3, 5)])):
            sights = sights_with(many, linked)
            for pair in linked:
                self.assertIn(check_kind(sights, *pair), ("side", "join", "loner"))

    def test_in_a_tree_and_in_a_ring(self):
        sights = sights_with(5, [(0, 1), (1, 2), (2, 3), (3, 4)])
        self.assertEqual([check_kind(sights, 0, 1), check_kind(sights, 2, 1), check_kind(sights, 3, 2)],
                         ["loner", "join", "join"])
        self.assertEqual(check_kind(sights_with(3, [(0, 1), (1, 2), (0, 2)]), 0, 2), "side")

    def test_seen_pairs_that_are_not_linked_count_for_still_looks(self):
        # Without (1, 2), look 2 is in no piece, but it is seen with look 0, so it is still.
        sights = sights_with(3, [(0, 1), (1, 2)], [(0, 2)])
        self.assertEqual((check_kind(sights, 1, 2), check_kind(sights, 2, 1)), ("told", "told"))
        self.assertEqual(check_kind(sights_with(3, [(0, 1), (1, 2)]), 1, 2), "loner")

    def test_pairs_of_a_larger_lot(self):
        sights = random_world(4003, (2, 3, 2), 2, low=1).sights_of([(0, 1, 2)])
        self.assertEqual(sights.linked(), [(0, 1), (0, 2), (1, 2)])
        self.assertEqual(check_kind(sights, 0, 1), "side")
        self.assertEqual(least_pairs(sights), ((0, 1), (0, 2), (1, 2)))

    def test_random_webs(self):
        source = random.Random(4002)
        for _ in range(12):
            many = source.randint(3, 7)
            pairs = list(itertools.combinations(range(many), 2))
            linked = source.sample(pairs, source.randint(2, min(len(pairs), 8)))
            sights = sights_with(many, linked)
            for pair in linked:
                rest = Web(sights_with(many, [other for other in linked if other != pair]))
                self.assertEqual(check_kind(sights, *pair), kind_by_definition(rest, *pair))


class LeastPairsTest(unittest.TestCase):

    def by_definition(self, many, linked):
        taken = []
        for pair in linked:
            if pair_kind(Web(sights_with(many, taken)), *pair) not in ("told", "sign"):
                taken.append(pair)
        return tuple(taken)

    def test_random_webs(self):
        source = random.Random(4100)
        for _ in range(25):
            many = source.randint(2, 8)
            pairs = list(itertools.combinations(range(many), 2))
            linked = sorted(source.sample(pairs, source.randint(0, min(len(pairs), 10))))
            sights = sights_with(many, linked[::-1])
            web = Web(sights)
            taken = least_pairs(sights)
            self.assertIs(type(taken), tuple)
            self.assertEqual(taken, self.by_definition(many, linked))
            self.assertEqual(len(taken), sum(map(len, web.pieces)) - web.free)
            source.shuffle(linked)
            self.assertEqual(len(self.by_definition(many, linked)), len(taken))

    def test_unlinked_pairs_do_not_count(self):
        sights = sights_with(4, [(0, 1), (1, 2)], [(0, 3), (2, 3)])
        self.assertEqual(least_pairs(sights), ((0, 1), (1, 2)))
        self.assertEqual(least_pairs(sights_with(2, [], [(0, 1)])), ())

    def test_the_pairs_need_not_agree(self):
        seen = [((0, 1), FAR), ((1, 2), FAR), ((2, 3), FAR), ((0, 3), NEAR), ((0, 2), QUARTERS)]
        self.assertEqual(least_pairs(Sights([HALF] * 4, seen=seen)), ((0, 1), (0, 3), (1, 2)))

    def test_what_is_taken_tells_what_all_pairs_tell(self):
        for seed, pairs in ((1, [(0, 1), (1, 2), (2, 3), (0, 3)]), (2, [(0, 1), (1, 2), (0, 2), (2, 3), (0, 3)]),
                            (3, [(0, 1), (1, 2), (0, 2), (2, 3), (3, 4), (2, 4)])):
            sights = self.agreeing(seed, 5, pairs)
            self.assertTrue(pairs_agree(sights))
            taken = least_pairs(sights)
            less = Sights(sights.singles, seen=[(pair, sights.table(pair).entries) for pair in taken])
            for pair in set(pairs) - set(taken):
                self.assertIn(check_kind(sights, *pair), ("told", "sign"))
            self.assert_tells(less, sights)

    def agreeing(self, seed, many, pairs):
        source = random.Random(4200 + seed)
        singles = [random_chances(source, 2 + look % 2, high=3) for look in range(many)]
        return linked_sights(singles, random_vectors(source, singles), {pair: Fraction(1, 60) for pair in pairs})

    def assert_tells(self, less, sights):
        web = Web(less)
        for look, other in itertools.combinations(range(len(sights.sizes)), 2):
            number = web.piece_of(look)
            if number < 0 or web.piece_of(other) != number:
                continue
            told = Tilts(sights, Web(sights).piece_of(look)).told_table(look, other)
            found = Tilts(less, number).told_table(look, other)
            if told is not None and pair_kind(web, look, other) == "told":
                self.assertEqual(found, told)

    def test_two_rings_and_a_path(self):
        pairs = [(0, 1), (1, 2), (0, 2), (2, 3), (3, 4), (4, 5), (3, 5)]
        sights = self.agreeing(4, 6, pairs)
        taken = least_pairs(sights)
        # In ascending order (2, 3) is a join when it comes, and (4, 5) closes the second ring as a told pair.
        self.assertEqual(taken, ((0, 1), (0, 2), (1, 2), (2, 3), (3, 4), (3, 5)))
        order = [(0, 1), (1, 2), (0, 2), (3, 4), (4, 5), (3, 5)]
        less = Sights(sights.singles, seen=[(pair, sights.table(pair).entries) for pair in order])
        self.assertEqual(pair_kind(Web(less), 2, 3), "sign")
        first, second = Tilts(less, 0), Tilts(less, 1)
        for x, y in itertools.product(look_spots(sights, 2), look_spots(sights, 3)):
            self.assertEqual(link(sights, x, y) ** 2, fraction(first.told(x, x)) * fraction(second.told(y, y)))


class OnePairMoreTest(unittest.TestCase):
    """Point 45: when the pairs agree again with a pair more."""

    def sights(self, factors, many=6):
        singles = [HALF] * many
        return linked_sights(singles, [[1, -1]] * many, {pair: Fraction(k) for pair, k in factors.items()})

    def with_link(self, sights, pair, k):
        k = Fraction(k)
        return sights.adding(pair, [ratio((1 + k) / 4), ratio((1 - k) / 4), ratio((1 - k) / 4), ratio((1 + k) / 4)])

    def test_all_links_0(self):
        sights = self.sights({(0, 1): Fraction(1, 4), (2, 3): Fraction(1, 4)})
        for pair in itertools.combinations(range(6), 2):
            if pair not in sights.pairs():
                more = sights.adding(pair, QUARTERS)
                self.assertIs(pairs_agree(more), max(pair) > 3)

    def test_told(self):
        sights = self.sights({(0, 1): Fraction(1, 2), (1, 2): Fraction(1, 2), (2, 3): Fraction(1, 2)})
        self.assertEqual(pair_kind(Web(sights), 0, 3), "told")
        self.assertEqual([pairs_agree(self.with_link(sights, (0, 3), Fraction(1, k))) for k in (2, 4, -2)],
                         [True, False, False])

    def test_a_still_look(self):
        sights = self.sights({(0, 1): Fraction(1, 2)}).adding((1, 2), QUARTERS)
        self.assertEqual(pair_kind(Web(sights), 0, 2), "told")
        self.assertIs(pairs_agree(self.with_link(sights, (0, 2), Fraction(1, 4))), False)

    def test_side(self):
        sights = self.sights({(0, 1): Fraction(1, 2), (1, 2): Fraction(1, 4)})
        self.assertEqual([pairs_agree(self.with_link(sights, (0, 2), Fraction(1, k))) for k in (2, 5, 9, -2, -9)],
                         [True, True, True, False, False])

    def test_join_and_loner(self):
        sights = self.sights({(0, 1): Fraction(1, 2), (2, 3): Fraction(1, 4)})
        for pair in ((0, 2), (1, 3), (0, 4), (4, 5)):
            for k in (2, -2, 7):
                self.assertIs(pairs_agree(self.with_link(sights, pair, Fraction(1, k))), True)

    def test_sign(self):
        quarter, sixteenth = Fraction(1, 4), Fraction(1, 16)
        sights = self.sights({(0, 1): quarter, (1, 2): quarter, (0, 2): quarter, (3, 4): sixteenth, (4, 5): sixteenth,
                              (3, 5): sixteenth})
        self.assertEqual(pair_kind(Web(sights), 0, 3), "sign")
        self.assertEqual([pairs_agree(self.with_link(sights, (0, 3), k))
                          for k in (Fraction(1, 8), Fraction(-1, 8), Fraction(1, 4), Fraction(1, 16))],
                         [True, True, False, False])

    def test_another_split(self):
        # The look 1 of three answers is split one way; a further pair must split it so, too.
        singles = [HALF, [(1, 3)] * 3, HALF, HALF]
        quarter = Fraction(1, 4)
        sights = linked_sights(singles, [[1, -1], [1, -1, 0], [1, -1], [1, -1]], {(0, 1): quarter, (2, 3): quarter})
        for middle, agrees in (([1, -1, 0], True), ([-2, 2, 0], True), ([1, 0, -1], False), ([1, 1, -2], False)):
            vectors = [[1, -1], middle, [1, -1], [1, -1]]
            table = linked_sights(singles, vectors, {(1, 2): Fraction(1, 8)}).table((1, 2))
            self.assertIs(pairs_agree(sights.adding((1, 2), table.entries)), agrees)


class WrongTest(unittest.TestCase):

    def test_looks(self):
        sights = sights_with(3, [(0, 1)])
        web = Web(sights)
        for call in (lambda u, v: pair_kind(web, u, v), lambda u, v: check_kind(sights, u, v)):
            for look in NO_INTEGERS + [3, -1]:
                for pair in ((look, 0), (0, look), (look, look)):
                    with self.assertRaises(BadLook):
                        call(*pair)
            for look in range(3):
                with self.assertRaises(BadLook):
                    call(look, look)

    def test_pairs_that_are_not_linked(self):
        sights = sights_with(4, [(0, 1)], [(1, 2)])
        for pair in ((1, 2), (2, 1), (0, 2), (2, 3)):
            with self.assertRaises(NotLinked):
                check_kind(sights, *pair)
        with self.assertRaises(BadLook):
            check_kind(sights, 2, 2)


if __name__ == "__main__":
    unittest.main()
