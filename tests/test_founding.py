"""Points 125, 126, 128 and 129 and the interface of hiddensorts/founding.py."""

import itertools
import random
import unittest
from fractions import Fraction

from hiddensorts.drawings import drawing_for, draws, turns
from hiddensorts.errors import BadChances, BadTable, IsRinged, NotEven, NotRinged, Unfounded
from hiddensorts.evens import EvenWeb
from hiddensorts.founding import agrees, found, found_ringed, is_of
from hiddensorts.frames import fair_worlds_of, frame_of
from hiddensorts.matrices import positive, turned
from hiddensorts.sewing import sewn, told_matrix
from hiddensorts.sights import Sights
from hiddensorts.worlds import World
from tests.evens import (RINGED, SIDED, below_web, even_world, even_worlds, four_answers, holds, is_world_of,
                         looks_of, made_matrix, sewn_web, shrunk_tables, span_web, spread_world, walks_of)
from tests.shares import chances_by_hand, ratios_of
from tests.test_barring import inner_worlds
from tests.test_frames import RING, RINGS, TREES, many_sights
from tests.tools import FAR, HALF, NEAR, NO_LISTS, NO_NUMBERS, fraction, random_chances, random_world, ratio


def webs_without_worlds():
    """Even webs, each with the word of a reason against it."""
    yield span_web(), "span"
    yield sewn_web(), "sewn"
    yield sewn_web(ringed=True), "sewn"
    for many in (2, 3, 4):
        yield below_web(many), "below"
    ring = [((0, 1), FAR), ((1, 2), FAR), ((2, 3), FAR), ((0, 3), NEAR)]
    yield EvenWeb(Sights([HALF] * 4, seen=ring)), "sewn"
    back = [FAR[1], FAR[0], FAR[0], FAR[1]]
    yield EvenWeb(Sights([HALF] * 3, seen=RING[:2] + [((1, 2), back)])), "below"


class AgreesTest(unittest.TestCase):

    def test_webs_of_worlds(self):
        for world, web in even_worlds(SIDED + RINGED, count=2):
            self.assertIsNone(agrees(web))
            self.assertIs(is_of(web, world), True)

    def test_webs_without_worlds(self):
        for web, word in webs_without_worlds():
            why = agrees(web)
            self.assertIs(type(why), tuple)
            self.assertEqual(why[0], word)
            self.assertTrue(holds(web, why), why)

    def test_weakened_pairs(self):
        # One pair of a ring weakened: an even ring, and an odd one with a ring more, have no world any more.
        words = []
        for lots in (SIDED[4], RINGED[4], RINGED[0], SIDED[3]):
            for many in (2, 3):
                _, web = even_world(11200 + many, lots, many)
                for pair in web.sights.pairs():
                    for factor in (Fraction(1, 2), Fraction(-1, 3)):
                        try:
                            more = EvenWeb(shrunk_tables(web.sights, pair, factor))
                        except (BadTable, NotEven):
                            continue
                        why = agrees(more)
                        words.append((lots, why and why[0]))
                        self.assertTrue(why is None or holds(more, why))
                        self.check_worlds(more, why)
        self.assertEqual({why for lots, why in words if lots == SIDED[4]}, {"sewn"})
        self.assertEqual({why for lots, why in words if lots == RINGED[4]}, {"sewn"})
        self.assertEqual({why for lots, why in words if lots == RINGED[0]}, {None, "below"})
        self.assertEqual({why for lots, why in words if lots == SIDED[3]}, {None})

    def check_worlds(self, web, why):
        if why is None:
            world = found_ringed(web) if web.ringed else found(web, [(1, web.rank)] * web.rank)
            self.assertTrue(is_world_of(world, web.sights, web.rank))
            return
        with self.assertRaises(Unfounded) as caught:
            found_ringed(web) if web.ringed else found(web, [(1, web.rank)] * web.rank)
        self.assertTrue(holds(web, caught.exception.reason))

    def test_sorts_that_differ_by_pairs(self):
        # Pairs from two worlds of one span each: every seen pair is of a world, the ring of four is of none.
        unlike = 0
        for seed in range(12):
            world, _ = even_world(11250 + seed, SIDED[4], 3)
            chances = [ratio(fraction(p) * Fraction(1, 2) + Fraction(1, 6)) for p in world.chances]
            other = World(chances, world.sorts)
            if other == world:
                continue
            # The same singles are wanted, so the sights of the other world are moved onto those of the first one.
            entries = self.moved(world, other)
            try:
                web = EvenWeb(world.sights_of([(0, 1), (1, 2), (2, 3)]).adding((0, 3), entries))
            except (BadTable, NotEven):
                continue
            why = agrees(web)
            self.assertTrue(holds(web, why))
            unlike += 1
        self.assertGreater(unlike, 3)

    def moved(self, world, other):
        """The table of looks 0 and 3 of the other world, its links kept, with the singles of the first one."""
        entries = []
        made = made_matrix(other, 0, 3)
        for a, b in itertools.product(range(world.sizes[0]), range(world.sizes[3])):
            cov = fraction(made[a][b]) - fraction(other.single((0, a))) * fraction(other.single((3, b)))
            entries.append(ratio(fraction(world.single((0, a))) * fraction(world.single((3, b))) + cov))
        return entries

    def test_what_is_sewn_from_looks_back_to_themselves(self):
        # Without a reason "span" or "sewn": symmetric all of them, and positive all of them or none.
        words = []
        webs = [web for _, web in even_worlds(RINGED[:4], sorts=(2, 3))] + [below_web(2), below_web(3)]
        for web in webs:
            signs = []
            for look in range(len(web.sights.sizes)):
                for walk in walks_of(web, look, 3) + walks_of(web, look, 5)[::7]:
                    if walk[-1] == look:
                        matrix = sewn(web, walk)
                        self.assertEqual(matrix, turned(matrix))
                        signs.append(positive(matrix))
            self.assertEqual(len(set(signs)), 1)
            self.assertEqual(signs[0], agrees(web) is None)
            words.append(signs[0])
        self.assertEqual(set(words), {True, False})


class FoundTest(unittest.TestCase):

    def test_a_world_for_every_list_of_chances(self):
        source = random.Random(11300)
        webs = [web for _, web in even_worlds(SIDED)] + [four_answers()]
        for web in webs:
            for turn in range(3):
                chances = random_chances(source, web.rank, high=9 if turn else 1)
                world = found(web, [list(chance) for chance in chances])
                self.assertIs(type(world), World)
                self.assertEqual(world.chances, tuple(ratio(fraction(chance)) for chance in chances))
                self.assertTrue(is_world_of(world, web.sights, web.rank))
                self.assertIs(is_of(web, world), True)

    def test_ringed_webs(self):
        for world, web in even_worlds(RINGED, count=2):
            one = found_ringed(web)
            self.assertIs(type(one), World)
            self.assertTrue(is_world_of(one, web.sights, web.rank))
            for look in range(len(world.sizes)):
                self.assertEqual(made_matrix(one, look, look), made_matrix(world, look, look))

    def test_examples(self):
        web = EvenWeb(Sights([HALF] * 3, seen=RING))
        self.assertEqual([web.ringed, agrees(web), told_matrix(web, 1, 1), is_of(web, found_ringed(web))],
                         [True, None, (((5, 16), (3, 16)), ((3, 16), (5, 16))), True])

    def test_real_worlds_come_with_worlds_in_ratios(self):
        # told(x, x) = 3/4 (links 3/4 each) and 1/12: no square is near, yet worlds in ratios are found.
        for link in (Fraction(3, 4), Fraction(1, 12), Fraction(2, 7)):
            entries = [ratio((1 + sign * link) / 4) for sign in (1, -1, -1, 1)]
            web = EvenWeb(Sights([HALF] * 3, seen=[(pair, entries) for pair in ((0, 1), (0, 2), (1, 2))]))
            self.assertTrue(is_world_of(found_ringed(web), web.sights, 2))

    def test_refuses_chances(self):
        web = EvenWeb(Sights([HALF] * 3, seen=RING[:2]))
        bad, _ = next((web, word) for web, word in webs_without_worlds() if not web.ringed)
        ring = EvenWeb(Sights([HALF] * 3, seen=RING))
        wrong = NO_LISTS + [[], [1], [(1, 3)] * 3, [(1, 2), (1, 3)], [0, 1], [2, -1], [None, 1], [True, 0]]
        for value in wrong + [[(1, 2), number] for number in NO_NUMBERS]:
            for each in (web, bad, ring):
                with self.assertRaises(BadChances):
                    found(each, value)
        with self.assertRaises(IsRinged):
            found(ring, [(1, 2), (1, 2)])
        with self.assertRaises(NotRinged):
            found_ringed(web)

    def test_refuses_webs_without_worlds(self):
        for web, word in webs_without_worlds():
            call = found_ringed if web.ringed else lambda web: found(web, [(1, web.rank)] * web.rank)
            with self.assertRaises(Unfounded) as caught:
                call(web)
            self.assertTrue(holds(web, caught.exception.reason))
            self.assertEqual(caught.exception.reason[0], word)
            if web.ringed:
                with self.assertRaises(IsRinged):
                    found(web, [(1, web.rank)] * web.rank)
            else:
                with self.assertRaises(NotRinged):
                    found_ringed(web)


class IsOfTest(unittest.TestCase):

    def test_worlds_of_other_webs(self):
        for world, web in even_worlds(SIDED + RINGED, sorts=(2, 3)):
            self.assertIs(is_of(web, world), True)
            self.assertIs(is_of(web, world.renamed(list(range(len(world)))[::-1])), True)
            self.assertIs(is_of(web, random_world(11400, world.sizes, len(world), low=1)), False)
            self.assertIs(is_of(web, world.without(0) if len(world.sizes) > 1 else world), False)
            more = World([ratio(fraction(p) / 2) for p in world.chances] * 2, list(world.sorts) * 2)
            self.assertTrue(all(made_matrix(more, *pair) == made_matrix(world, *pair) for pair in web.sights.pairs()))
            self.assertIs(is_of(web, more), False)

    def test_one_pair_alone_differs(self):
        for world, web in even_worlds(SIDED[3:5], sorts=(2, 3)):
            spread = spread_world(world, Fraction(1, 7), web.sides)
            self.assertIs(is_of(web, spread), True)
            mixed = World(world.chances, [sort[:3] + far[3:] for sort, far in zip(world.sorts, spread.sorts)])
            self.assertIs(is_of(web, mixed), False)


class ToldTest(unittest.TestCase):

    def test_told_exactly_if_an_odd_walk_leads_there(self):
        # Point 126: worlds of the web differ in all other tables.
        for world, web in even_worlds(SIDED + RINGED[:3]):
            others = [found_ringed(web)] if web.ringed else [found(web, [(1, web.rank)] * web.rank),
                                                             spread_world(world, 2, web.sides)]
            many = range(len(world.sizes))
            for look, other in itertools.product(many, repeat=2):
                tables = {made_matrix(each, look, other) for each in [world] + others}
                told = told_matrix(web, look, other)
                self.assertEqual(len(tables) == 1, told is not None)
                if told is not None:
                    self.assertEqual(tables, {told})

    def test_rank_2_and_frames(self):
        # Point 128: for two sorts a fair world exists exactly if no told matrix has an entry below 0.
        for sights in many_sights(TREES, 6) + many_sights(RINGS[:1], 4):
            if len(frame_of(sights, 0).tilts.looks) < len(sights.sizes):
                continue
            web, frame = EvenWeb(sights), frame_of(sights, 0)
            many = range(len(sights.sizes))
            for look, other in itertools.product(many, repeat=2):
                told = told_matrix(web, look, other)
                self.assertTrue(told is None or min(entry for row in told for entry in row)[0] >= 0)
            for world in inner_worlds(frame):
                self.assertTrue(is_of(web, world) and world.fair and fair_worlds_of(frame, world))

    def test_fair_worlds_make_no_told_entry_below_0(self):
        for world, web in even_worlds(SIDED + RINGED):
            if world.fair:
                many = range(len(world.sizes))
                for look, other in itertools.product(many, repeat=2):
                    told = told_matrix(web, look, other)
                    self.assertTrue(told is None or all(entry[0] >= 0 for row in told for entry in row))

    def test_no_fair_world_though_no_told_entry_is_below_0(self):
        web = four_answers()
        self.assertEqual((web.rank, agrees(web)), (3, None))
        self.assertTrue(all(entry[0] >= 0 for row in told_matrix(web, 0, 1) for entry in row))
        self.assertFalse(found(web, [(1, 3)] * 3).fair)


class DrawingsTest(unittest.TestCase):
    """Point 129."""

    def is_drawn(self, world, look, other):
        one, two = [ratios_of(chances_by_hand(world, (at,))) for at in (look, other)]
        return drawing_for(one, two)

    def test_even_walks_tell_drawings(self):
        words = []
        for seed in range(6):
            # Look 2 is drawn from look 0 in some of them.
            for lots in (SIDED[1], SIDED[3], RINGED[0]):
                world, _ = even_world(11500 + seed, lots, 2 + seed % 2)
                sorts = [list(sort) for sort in world.sorts]
                if seed % 3 != 2:
                    for sort in sorts:
                        mean = [fraction(f) for f in sort[0]]
                        sort[2] = [ratio(mean[0]), ratio(sum(mean[1:]) / 2), ratio(sum(mean[1:]) / 2)]
                        if seed % 2:
                            sort[2] = [ratio((mean[0] + mean[1]) / 2), ratio((mean[0] + mean[1]) / 2),
                                       ratio(1 - mean[0] - mean[1])]
                world = World(world.chances, sorts)
                try:
                    web = EvenWeb(world.sights_of(lots))
                except (BadTable, NotEven):
                    continue
                words += self.check(world, web)
        self.assertGreater(min(words.count(True), words.count(False)), 5)

    def check(self, world, web):
        others = [found_ringed(web)] if web.ringed else [spread_world(world, 3, web.sides),
                                                         found(web, [(1, web.rank)] * web.rank)]
        words = []
        for u, v in itertools.permutations(range(len(world.sizes)), 2):
            if web.walk(u, v, False) is None:
                continue
            seen = [l for l in range(len(world.sizes)) if told_matrix(web, u, l) and told_matrix(web, v, l)]
            drawing = drawing_for(told_matrix(web, u, seen[0]), told_matrix(web, v, seen[0]))
            words.append(drawing is not None)
            for l in seen:
                one, two = told_matrix(web, u, l), told_matrix(web, v, l)
                self.assertEqual(drawing_for(one, two) is not None, words[-1])
                if drawing is not None:
                    self.assertIs(turns(drawing, one, two), True)
            for each in [world] + others:
                self.assertEqual(self.is_drawn(each, u, v) is not None, words[-1])
                if drawing is not None:
                    self.assertIs(draws(each, u, v, drawing), True)
        return words

    def test_across_the_sides_some_worlds_have_one_and_some_have_none(self):
        for world, web in even_worlds(SIDED, sorts=(2, 3)):
            for u, v in itertools.product(*web.sides):
                self.assertIsNone(web.walk(u, v, False))
                self.assertIsNotNone(web.walk(u, v, True))
                wide, narrow = spread_world(world, 60, web.sides), spread_world(world, Fraction(-59, 60), web.sides)
                self.assertTrue(is_of(web, wide) and is_of(web, narrow))
                for look, other in ((u, v), (v, u)):
                    drawn = [self.is_drawn(each, look, other) is not None for each in (wide, narrow)]
                    self.assertEqual(drawn, [True, False] if look == u else [False, True])

    def test_each_two_looks_have_a_table_or_a_drawing(self):
        for kinds, both in ((SIDED, False), (RINGED, True)):
            for lots in kinds:
                _, web = even_world(11590, lots, 2)
                for u, v in itertools.permutations(range(looks_of(lots)), 2):
                    words = [web.walk(u, v, odd) is not None for odd in (True, False)]
                    self.assertEqual(words.count(True), 2 if both else 1)


if __name__ == "__main__":
    unittest.main()
