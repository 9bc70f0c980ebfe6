"""Point 145 and the interface of hiddensorts/plans.py."""

import itertools
import random
import unittest
from fractions import Fraction

from hiddensorts.checks import pair_kind
from hiddensorts.errors import BadTable, NoPlan
from hiddensorts.plans import a_plan, to_see
from hiddensorts.sights import Sights
from hiddensorts.webs import Web
from tests.oracles import beside
from tests.test_frames import RING
from tests.tools import FAR, HALF, QUARTERS, ratio

PLAIN = QUARTERS
FIFTH = [ratio(Fraction(1, 4) + sign * Fraction(1, 40)) for sign in (1, -1, -1, 1)]


def web_sights(many, linked, unlinked=()):
    return Sights([HALF] * many, seen=[(pair, FIFTH) for pair in linked] + [(pair, PLAIN) for pair in unlinked])


def all_joined(many, linked, still):
    """Whether odd walks join each two looks that are not still, and each such look with itself."""
    web = Web(web_sights(many, sorted(linked)))
    looks = [look for look in range(many) if look not in still]
    return all(web.walk(look, other, True) is not None
               for look, other in itertools.combinations_with_replacement(looks, 2))


def fewest(sights):
    """The fewest pairs of a plan, by trying all of them."""
    many, still = len(sights.sizes), Web(sights).still
    unseen = [pair for pair in itertools.combinations(range(many), 2) if pair not in sights.pairs()]
    for count in range(len(unseen) + 1):
        for chosen in itertools.combinations(unseen, count):
            if all_joined(many, sights.linked() + list(chosen), still):
                return count
    return None


def random_webs(count):
    source = random.Random(13400)
    for _ in range(count):
        many = source.randint(1, 5)
        pairs = list(itertools.combinations(range(many), 2))
        linked = source.sample(pairs, source.randint(0, min(len(pairs), 4)))
        rest = [pair for pair in pairs if pair not in linked]
        yield web_sights(many, linked, source.sample(rest, min(len(rest), source.choice((0, 0, 1, 2)))))


def has_plan(sights):
    web = Web(sights)
    moving = [look for look in range(len(sights.sizes)) if look not in web.still]
    unlinked = [pair for pair in sights.pairs() if pair not in sights.linked()]
    return len(moving) >= 3 and not any(set(pair) <= set(moving) for pair in unlinked)


class PlansTest(unittest.TestCase):

    def check(self, sights):
        found = to_see(sights)
        self.assertIs(type(found), int)
        plan = a_plan(sights)
        self.assertTrue(type(plan) is list and all(type(pair) is tuple for pair in plan))
        self.assertEqual((len(plan), plan), (found, sorted(set(plan))))
        for look, other in plan:
            self.assertLess(look, other)
            self.assertNotIn((look, other), sights.pairs())
        self.assertTrue(all_joined(len(sights.sizes), sights.linked() + plan, Web(sights).still))
        return found

    def test_fewest(self):
        found, none = [], 0
        for sights in random_webs(150):
            if not has_plan(sights):
                none += 1
                for call in (to_see, a_plan):
                    with self.assertRaises(NoPlan):
                        call(sights)
                continue
            found.append(self.check(sights))
            self.assertEqual(found[-1], fewest(sights))
            web = Web(sights)
            loners = [look for look in web.loners if look not in web.still]
            ringed = any(web.is_ringed(number) for number in range(len(web.pieces)))
            self.assertEqual(found[-1], len(web.pieces) - 1 + len(loners) + (0 if ringed else 1))
        self.assertEqual(set(found), {0, 1, 2, 3, 4, 5})
        self.assertGreater(none, 20)

    def test_eight_looks(self):
        for linked, number in (([], 8), ([(0, 1)], 7), ([(0, 1), (1, 2), (0, 2)], 5), ([(0, 1), (2, 3), (4, 5)], 5),
                               ([(k, k + 1) for k in range(7)], 1), ([(k, k + 1) for k in range(7)] + [(0, 7)], 1),
                               ([(k, k + 1) for k in range(7)] + [(0, 6)], 0)):
            self.assertEqual(self.check(web_sights(8, linked)), number)

    def test_still_looks(self):
        sights = web_sights(5, [(0, 1), (1, 2)], [(1, 3)])
        self.assertEqual(Web(sights).still, (3,))
        self.assertEqual(self.check(sights), 2)
        # Two looks that move and one that is still.
        with self.assertRaises(NoPlan):
            to_see(web_sights(3, [(0, 1)], [(0, 2)]))

    def test_no_plan(self):
        for sights in (web_sights(1, []), web_sights(2, []), web_sights(2, [(0, 1)]), web_sights(4, [], [(0, 1)]),
                       web_sights(4, [(0, 1), (1, 2)], [(0, 2)]), web_sights(4, [(0, 1), (2, 3)], [(0, 2)]),
                       web_sights(4, [(0, 1)], [(2, 3)])):
            for call in (to_see, a_plan):
                with self.assertRaises(NoPlan):
                    call(sights)

    def test_larger_lots(self):
        # Leans are left aside: a seen three joins its looks by its pairs alone.
        row = [(7, 32), (3, 32), (3, 32), (3, 32), (3, 32), (3, 32), (3, 32), (7, 32)]
        three = Sights([HALF] * 3, seen=[((0, 1, 2), row)])
        self.assertEqual(to_see(three), 0)
        self.assertEqual(to_see(beside(three, three)), 1)
        self.assertEqual(to_see(beside(three, Sights([HALF] * 3, seen=RING[:2]))), 1)

    def test_one_linked_pair_more(self):
        changes = set()
        two = web_sights(6, [(0, 1), (1, 2), (0, 2), (3, 4), (4, 5)])
        for sights in list(random_webs(150)) + [two]:
            if not has_plan(sights):
                continue
            web, before = Web(sights), to_see(sights)
            for pair in itertools.combinations(range(len(sights.sizes)), 2):
                if pair in sights.pairs():
                    continue
                try:
                    more = sights.adding(pair, FIFTH)
                    after = to_see(more)
                except (BadTable, NoPlan):
                    continue
                kind = pair_kind(web, *pair)
                rings = [web.is_ringed(number) for number in range(len(web.pieces))]
                stays = kind == "told" or (kind == "side" and any(rings))
                self.assertEqual(after, before if stays else before - 1)
                changes.add((kind, after - before))
        self.assertLessEqual({("told", 0), ("side", -1), ("side", 0), ("join", -1), ("loner", -1)}, changes)

    def test_example(self):
        s = Sights([HALF] * 3, seen=[((0, 1), FAR), ((1, 2), FAR)])
        self.assertEqual((to_see(s), a_plan(s)), (1, [(0, 2)]))
        found = a_plan(s)
        found.clear()
        self.assertEqual(a_plan(s), [(0, 2)])


if __name__ == "__main__":
    unittest.main()
