"""Points 136 to 141, 143, 144, 146 and 147 and the interface of hiddensorts/desks.py."""

import itertools
import random
import unittest
from fractions import Fraction

from hiddensorts.agreeing import pairs_agree
from hiddensorts.bounds import chance_ends, verdict_ends
from hiddensorts.checks import pair_kind
from hiddensorts.desks import Desk, News
from hiddensorts.errors import (BadLook, BadLot, BadPiece, BadSingle, BadTable, Clash, Disagrees, NeverMet, NoDeed,
                                NoFair, NotFair, SortsError)
from hiddensorts.frames import Oblong, Stretch, fair_worlds_of, frame_of
from hiddensorts.leans import Leans
from hiddensorts.meeting import balance_ends
from hiddensorts.opening import opened
from hiddensorts.sights import Sights
from hiddensorts.standing import balance_range, stand
from hiddensorts.tables import Table
from hiddensorts.texts import sights_from, sights_text
from hiddensorts.tilts import Tilts
from hiddensorts.untold import link_ends, twist_ends
from hiddensorts.webs import Web
from hiddensorts.worlds import World
from tests.oracles import beside, look_spots, made_link, made_twist, numbers_of, single
from tests.test_frames import RING, piece_spots
from tests.test_leans import FIVE, by_base, loose_world
from tests.test_standing import three
from tests.threes import leaned_entries
from tests.tools import (FAR, HALF, NEAR, NO_INTEGERS, NO_LISTS, QUARTERS, as_it_looks, fraction, random_world, ratio,
                         rows)

SIZES = (2, 3, 2, 2, 3, 2)


def has_three(sights, number):
    return any(len(set(lot) & set(Web(sights).pieces[number])) >= 3 for lot in sights.lots)


class Told:
    """Point 137: the told tables of sights, as their entries."""

    def __init__(self, sights):
        self.sights, self.word, self.web = sights, stand(sights)[0], Web(sights)
        if self.word != "none":
            numbers = range(len(self.web.pieces))
            self.tilts = [Tilts(sights, number) for number in numbers]
            self.leans = [Leans(sights, number) if has_three(sights, number) else None for number in numbers]

    def entries(self, look, other):
        """The entries of the told table of two looks, or of one asked again, or None."""
        sights, pair = self.sights, tuple(sorted((look, other)))
        if self.word == "none":
            return None
        if look != other and any(set(pair) <= set(lot) for lot in sights.lots):
            return sights.table(pair).entries
        shares = [single(sights, (pair[0], a)) * single(sights, (pair[1], b)) for a, b in rows(pair, sights.sizes)]
        if pair[0] in self.web.still or pair[1] in self.web.still:
            return tuple(ratio(share) for share in shares)
        numbers = [self.web.piece_of(at) for at in pair]
        if -1 in numbers:
            return None
        if numbers[0] == numbers[1]:
            table = self.tilts[numbers[0]].told_table(*pair)
            return None if table is None else table.entries
        one, two = [self.leans[number] for number in numbers]
        if one is None or two is None or one.balance() == (1, 4):
            return None
        step = 1 / fraction(one.balance()) - 4
        links = [fraction(one.lean((pair[0], a))) * fraction(two.lean((pair[1], b))) / step
                 for a, b in rows(pair, sights.sizes)]
        return tuple(ratio(share * (1 + link)) for share, link in zip(shares, links))


def pairs_with_themselves(sights):
    return list(itertools.combinations_with_replacement(range(len(sights.sizes)), 2))


def told_pairs(sights):
    told = Told(sights)
    return [pair for pair in pairs_with_themselves(sights) if told.entries(*pair) is not None]


def balances_by_hand(sights):
    ranges = [balance_range(sights, number) for number in range(len(Web(sights).pieces))]
    if not ranges:
        return None
    return (ratio(max(fraction(low) for low, _ in ranges)), ratio(min(fraction(high) for _, high in ranges)))


def news_by_hand(ahead, behind, lot):
    """Point 138, as the values of the attributes."""
    words = stand(ahead)[0], stand(behind)[0]
    web = Web(ahead)
    kinds = tuple(pair + (pair_kind(web, *pair),) for pair in itertools.combinations(lot, 2)
                  if not any(set(pair) <= set(seen) for seen in ahead.lots))
    before = told_pairs(ahead)
    opened_now = tuple(pair for pair in told_pairs(behind) if pair not in before)
    narrower = words[0] != words[1]
    if words == ("fair", "fair"):
        narrower = balances_by_hand(ahead) != balances_by_hand(behind)
    return (tuple(lot), words[1], kinds, opened_now, narrower)


def values(news):
    return (news.lot, news.behind, news.kinds, news.opened_now, news.narrower)


def random_deeds(seed, *, kind="fair", count=6, sizes=SIZES, alike=0):
    """Singles, and deeds that sights of a world can take; "none" weakens some tables."""
    source = random.Random(seed)
    lots = [tuple(sorted(source.sample(range(len(sizes)), source.choice((2, 2, 2, 3))))) for _ in range(count)]
    world = random_world(seed, sizes, 2, low=seed % 2, alike=alike)
    if kind == "loose":
        world = loose_world(seed, sizes, lots)
    deeds = []
    for lot in lots:
        entries = list(world.made(lot).entries)
        if kind == "none" and len(lot) == 2 and source.random() < 0.5:
            entries = []
            for row, entry in zip(rows(lot, sizes), world.made(lot).entries):
                plain = fraction(world.single((lot[0], row[0]))) * fraction(world.single((lot[1], row[1])))
                entries.append(ratio(plain + (fraction(entry) - plain) * Fraction(3, 5)))
        deeds.append((lot, entries))
    return world, [world.made((look,)).entries for look in range(len(sizes))], deeds


def all_deeds():
    for seed in range(6):
        yield random_deeds(12000 + seed, alike=seed % 3)
    for seed in range(3):
        yield random_deeds(12020 + seed, kind="loose", count=4, sizes=SIZES[:4])
    for seed in range(5):
        yield random_deeds(12040 + seed, kind="none", count=5)


class DeskTest(unittest.TestCase):

    def check(self, desk, sights):
        """Whether the desk is one of these sights so far."""
        told = Told(sights)
        word = told.word
        self.assertEqual((desk.word, desk.so_far, desk.so_far.lots), (word, sights, sights.lots))
        self.assertEqual((len(desk), list(desk)), (len(sights.lots), list(sights.lots)))
        for look, other in pairs_with_themselves(sights):
            wanted = told.entries(look, other)
            for pair in ((look, other), (other, look)):
                found = desk.told(*pair)
                if wanted is None:
                    self.assertIsNone(found)
                else:
                    self.assertEqual(found, Table((look, other), sights.sizes, wanted))
        if word == "fair":
            self.assertEqual(desk.balances(), balances_by_hand(sights))
        else:
            with self.assertRaises(NotFair):
                desk.balances()
        for number in range(len(Web(sights).pieces)):
            try:
                frame = frame_of(sights, number)
            except (Clash, NoFair) as error:
                with self.assertRaises(type(error)) as caught:
                    desk.frame(number)
                self.assertEqual(vars(caught.exception), vars(error))
                continue
            self.assertEqual(desk.frame(number).end_worlds(), frame.end_worlds())

    def test_one_deed_after_the_other(self):
        words, kinds, opened_now, narrower = set(), set(), 0, set()
        for _, singles, deeds in all_deeds():
            desk, sights = Desk(singles), Sights(singles)
            self.check(desk, sights)
            for lot, entries in deeds:
                try:
                    more = sights.adding(lot, entries)
                except Disagrees as error:
                    for call in (desk.see, desk.tried):
                        with self.assertRaises(Disagrees) as caught:
                            call(lot, entries)
                        self.assertEqual(vars(caught.exception), vars(error))
                    self.check(desk, sights)
                    continue
                wanted = news_by_hand(sights, more, lot)
                tried = desk.tried(list(lot), [list(entry) for entry in entries])
                self.assertEqual((type(tried), values(tried)), (News, wanted))
                self.assertEqual((desk.so_far, len(desk)), (sights, len(sights.lots)))
                news = desk.see(list(lot), tuple(entries))
                self.assertEqual(values(news), wanted)
                self.assertTrue(news == tried and desk.tried(lot, entries) != 5)
                sights = more
                self.check(desk, sights)
                words.add(news.behind)
                kinds |= {kind for _, _, kind in news.kinds}
                opened_now += len(news.opened_now)
                narrower.add(news.narrower)
        self.assertEqual((words, narrower), ({"none", "loose", "fair"}, {True, False}))
        self.assertLessEqual({"told", "side", "join", "loner"}, kinds)
        self.assertGreater(opened_now, 20)

    def test_attributes_of_news(self):
        _, singles, deeds = random_deeds(12100)
        desk = Desk(singles)
        for lot, entries in deeds:
            news = desk.see(lot, entries)
            self.assertTrue(as_it_looks(news.lot) and as_it_looks(news.opened_now))
            self.assertTrue(type(news.kinds) is tuple and all(type(kind) is tuple for kind in news.kinds))
            self.assertIs(type(news.narrower), bool)
            self.assertFalse(news == None or news == values(news))  # noqa: E711

    def test_news_differ_in_any_attribute(self):
        desk = Desk([HALF] * 4)
        one, two = desk.tried((0, 1), FAR), desk.tried((0, 1), FAR)
        self.assertTrue(one == two)
        for lot, entries in (((0, 2), FAR), ((0, 1), QUARTERS)):
            self.assertFalse(desk.tried(lot, entries) == one)
        desk.see((0, 1), FAR)
        self.assertFalse(desk.tried((0, 1), FAR) == one)

    def test_back(self):
        for _, singles, deeds in all_deeds():
            desk, states, done = Desk(singles), [], []
            for lot, entries in deeds:
                states.append(desk.so_far)
                try:
                    news = desk.see(lot, entries)
                except Disagrees:
                    states.pop()
                    continue
                done.append((lot, entries, news))
            for lot, entries, news in done[::-1]:
                self.assertEqual(desk.back(), lot)
                self.check(desk, states[-1])
                self.assertEqual(desk.see(lot, entries), news)
                self.assertEqual(desk.back(), lot)
                states.pop()
            for _ in range(2):
                with self.assertRaises(NoDeed):
                    desk.back()
            self.check(desk, Sights(singles))

    def test_first_deeds(self):
        _, singles, deeds = random_deeds(12110)
        desk = Desk([list(look) for look in singles], seen=[list(deed) for deed in deeds])
        self.check(desk, Sights(singles, seen=deeds))
        for lot, _ in deeds[::-1]:
            self.assertEqual(desk.back(), lot)
        with self.assertRaises(NoDeed):
            desk.back()

    def test_a_lot_again(self):
        desk = Desk([HALF] * 3, seen=[((0, 1), FAR)])
        again = desk.see((0, 1), FAR)
        self.assertEqual(values(again), ((0, 1), "fair", (), (), False))
        self.assertEqual((len(desk), list(desk)), (2, [(0, 1), (0, 1)]))
        self.assertEqual(desk.back(), (0, 1))
        self.assertEqual(desk.told(0, 1).entries, tuple(ratio(Fraction(*entry)) for entry in FAR))
        # A lot within a seen one, with its table.
        world = random_world(12111, (2, 2, 3), 2, low=1)
        desk = Desk([world.made((look,)).entries for look in range(3)])
        desk.see((0, 1, 2), world.made((0, 1, 2)).entries)
        news = desk.see((0, 2), world.made((0, 2)).entries)
        self.assertEqual(values(news), ((0, 2), "fair", (), (), False))

    def test_example(self):
        desk = Desk([HALF] * 3, seen=[((0, 1), FAR), ((1, 2), FAR)])
        news = desk.see((0, 2), FAR)
        self.assertEqual([news.kinds, news.opened_now, news.behind, news.narrower, desk.balances(), desk.back(),
                          desk.told(0, 2), list(desk)],
                         [((0, 2, "side"),), ((0, 0), (0, 2), (1, 1), (2, 2)), "fair", False, ((4, 25), (1, 4)),
                          (0, 2), None, [(0, 1), (1, 2)]])

    def test_words(self):
        desk = Desk([HALF] * 4, seen=[((0, 1), NEAR), ((1, 2), FAR)])
        self.assertEqual(desk.word, "fair")
        self.assertEqual(desk.see((2, 3), NEAR).behind, "loose")
        self.assertEqual(desk.told(0, 3).entries[1], ratio(Fraction(1, 4) * (1 - Fraction(9, 4))))
        self.assertEqual(desk.see((0, 3), FAR).behind, "none")
        self.assertEqual([desk.told(*pair) for pair in pairs_with_themselves(desk.so_far)], [None] * 10)
        news = desk.see((0, 2), FAR)
        self.assertEqual(values(news), ((0, 2), "none", ((0, 2, "side"),), (), False))
        desk.back()
        desk.back()
        self.assertEqual(desk.word, "loose")

    def test_narrower(self):
        desk = Desk([HALF] * 5)
        self.assertIsNone(desk.balances())
        self.assertIs(desk.see((0, 1), QUARTERS).narrower, False)
        # A first piece: None ahead is another one.
        self.assertIs(desk.see((1, 2), FAR).narrower, True)
        self.assertEqual(desk.balances(), ((4, 25), (1, 4)))
        self.assertIs(desk.see((3, 4), FAR).narrower, False)
        self.assertIs(desk.tried((2, 3), NEAR).narrower, True)

    def test_still_looks_and_loners(self):
        desk = Desk([HALF, [(1, 3), (2, 3)], HALF, HALF])
        news = desk.see((0, 1), [(1, 6), (1, 3), (1, 6), (1, 3)])
        self.assertEqual((news.kinds, news.opened_now), (((0, 1, "loner"),), ((0, 1),)))
        # Look 1 becomes still: all its tables are told, that of itself asked again too.
        news = desk.see((0, 2), FAR)
        self.assertEqual((news.kinds, news.opened_now), (((0, 2, "loner"),), ((0, 2), (1, 1), (1, 2), (1, 3))))
        self.assertEqual(desk.told(1, 1).entries, ((1, 9), (2, 9), (2, 9), (4, 9)))
        self.assertEqual(desk.told(3, 1).entries, ((1, 6), (1, 6), (1, 3), (1, 3)))
        self.assertEqual((desk.told(3, 3), desk.told(0, 3), desk.told(0, 0)), (None, None, None))

    def test_two_pieces_with_leans(self):
        skewed, equal = three(Fraction(1, 6), Fraction(1, 5)), three(Fraction(1, 4), 0)
        for part, told in ((skewed, True), (equal, False)):
            sights = beside(part, part)
            desk = Desk(sights.singles, seen=[(sights.lots[0], sights.table(sights.lots[0]).entries)])
            news = desk.see(sights.lots[1], sights.table(sights.lots[1]).entries)
            across = tuple((look, other) for look in range(3) for other in range(3, 6))
            self.assertEqual(set(news.opened_now) & set(across), set(across) if told else set())
            self.assertEqual(desk.told(5, 0) is not None, told)
            self.check(desk, sights)
        # Ringed pieces without leans tell nothing of each other.
        ring = Sights([HALF] * 3, seen=RING)
        desk = Desk([HALF] * 6, seen=[(lot, beside(ring, ring).table(lot).entries) for lot in beside(ring, ring).lots])
        self.assertIsNone(desk.told(0, 3))
        self.assertIsNotNone(desk.told(3, 3))

    def test_refuses(self):
        for singles, look in ((None, -1), ([], -1), ([HALF] * 9, -1), ([HALF, [1]], 1), ([HALF, [0, 1]], 1)):
            with self.assertRaises(BadSingle) as caught:
                Desk(singles, seen=None)
            self.assertEqual(caught.exception.look, look)
        for seen, error in ((None, BadLot), ([(0, 1)], BadLot), ([((0, 1), [1])], BadTable),
                            ([((0, 1), [(1, 2), 0, (1, 4), (1, 4)])], Disagrees),
                            ([((0, 1), FAR), ((0, 1), NEAR)], Disagrees)):
            with self.assertRaises(error):
                Desk([HALF] * 2, seen=seen)
        with self.assertRaises(TypeError):
            Desk([HALF] * 2, [((0, 1), FAR)])
        desk = Desk([HALF] * 3, seen=[((0, 1), FAR)])
        for call in (desk.see, desk.tried):
            for lot, place in [(value, -1) for value in NO_LISTS] + [([3], 0), ([0], -1), ([], -1), ([1, 0], 1)]:
                with self.assertRaises(BadLot) as caught:
                    call(lot, None)
                self.assertEqual(caught.exception.place, place)
            for entries, place in ((None, -1), ([1], -1), ([(1, 2), (1, 2), (1, 2), (-1, 2)], 3), ([(1, 3)] * 4, -1),
                                   ([1, "0", 0, 0], 1)):
                with self.assertRaises(BadTable) as caught:
                    call((0, 2), entries)
                self.assertEqual(caught.exception.place, place)
            with self.assertRaises(Disagrees) as caught:
                call((0, 1), NEAR)
            self.assertEqual((caught.exception.lot, caught.exception.other), ((0, 1), (0, 1)))
            with self.assertRaises(Disagrees) as caught:
                call((0, 2), [(1, 2), 0, (1, 4), (1, 4)])
            self.assertEqual((caught.exception.lot, caught.exception.other), ((0, 2), (2,)))
        self.check(desk, Sights([HALF] * 3, seen=[((0, 1), FAR)]))
        for look in NO_INTEGERS + [3, -1]:
            for pair in ((look, 0), (0, look)):
                with self.assertRaises(BadLook):
                    desk.told(*pair)
        for number in NO_INTEGERS + [1, -1]:
            with self.assertRaises(BadPiece):
                desk.frame(number)

    def test_frames(self):
        desk = Desk([HALF] * 4, seen=[((0, 1), FAR), ((1, 2), FAR)])
        self.assertIs(type(desk.frame(0)), Oblong)
        desk.see((0, 2), FAR)
        self.assertIs(type(desk.frame(0)), Stretch)
        bar = Desk([HALF] * 4, seen=[((0, 1), NEAR), ((1, 2), FAR), ((2, 3), NEAR)])
        with self.assertRaises(NoFair) as caught:
            bar.frame(0)
        self.assertEqual((caught.exception.x, caught.exception.y), ((0, 0), (3, 1)))
        apart = Desk([HALF] * 3, seen=RING[:2] + [((1, 2), QUARTERS)])
        with self.assertRaises(Clash):
            apart.frame(0)

    def test_what_is_returned_is_the_callers(self):
        seen = [[[0, 1], [list(entry) for entry in FAR]]]
        singles = [[[1, 2], [1, 2]] for _ in range(2)]
        desk = Desk(singles, seen=seen)
        seen[0][1].clear()
        seen.clear()
        singles[0][0][0] = 9
        self.check(desk, Sights([HALF] * 2, seen=[((0, 1), FAR)]))
        lots = list(desk)
        lots.clear()
        self.assertEqual(len(desk), 1)


class OrderTest(unittest.TestCase):
    """Point 139."""

    def told_of(self, desk):
        tables = [desk.told(*pair) for pair in pairs_with_themselves(desk.so_far)]
        ends = []
        for number in range(len(Web(desk.so_far).pieces)):
            try:
                ends.append(desk.frame(number).end_worlds())
            except SortsError as error:
                ends.append(type(error).__name__)
        return desk.word, tables, desk.balances() if desk.word == "fair" else None, ends

    def test_any_order(self):
        source = random.Random(12200)
        for world, singles, deeds in all_deeds():
            good = []
            for deed in deeds:
                try:
                    Sights(singles, seen=good + [deed])
                    good.append(deed)
                except Disagrees:
                    pass
            desk = Desk(singles, seen=good)
            for _ in range(2):
                source.shuffle(good)
                self.assertEqual(self.told_of(Desk(singles, seen=good)), self.told_of(desk))
            read = sights_from(sights_text(desk.so_far))
            seen = [(lot, read.table(lot).entries) for lot in read.lots]
            source.shuffle(seen)
            self.assertEqual(self.told_of(Desk(read.singles, seen=seen)), self.told_of(desk))
            # Deeds that are taken back, or refused, leave nothing.
            desk.see(deeds[0][0], desk.so_far.table(deeds[0][0]).entries)
            with self.assertRaises(BadTable):
                desk.see((0, 1), [1])
            desk.back()
            self.assertEqual(self.told_of(Desk(singles, seen=good)), self.told_of(desk))


class OnlyNarrowerTest(unittest.TestCase):
    """Point 140."""

    RANK = {"fair": 0, "loose": 1, "none": 2}

    def test_words_and_told_tables(self):
        for _, singles, deeds in all_deeds():
            desk = Desk(singles)
            for lot, entries in deeds:
                word = desk.word
                tables = {pair: desk.told(*pair) for pair in pairs_with_themselves(desk.so_far)}
                try:
                    desk.see(lot, entries)
                except Disagrees:
                    continue
                self.assertTrue(self.RANK[desk.word] >= self.RANK[word])
                if desk.word != "none":
                    for pair, table in tables.items():
                        self.assertTrue(table is None or desk.told(*pair) == table)

    def test_ends(self):
        many = turned = 0
        for seed in range(14):
            world, singles, deeds = random_deeds(12300 + seed, sizes=(2, 3, 2, 2, 2), count=5)
            desk = Desk(singles)
            for lot, entries in deeds:
                ahead = desk.so_far
                desk.see(lot, entries)
                self.assertEqual(desk.word, "fair")
                for number in range(len(Web(ahead).pieces)):
                    turned += self.check(ahead, number, desk.so_far)
                    many += 1
        self.assertGreater(many, 20)
        self.assertGreater(turned, 0)

    def check(self, ahead, number, behind):
        old = frame_of(ahead, number)
        new = frame_of(behind, Web(behind).piece_of(old.tilts.looks[0]))
        self.assertLessEqual(set(old.tilts.looks), set(new.tilts.looks))
        flip = new.tilts.leaning(old.tilts.base) < 0
        calls = [(chance_ends(old), chance_ends(new))]
        calls += [(verdict_ends(old, x), verdict_ends(new, x)) for x in piece_spots(old.tilts)]
        for one, two in calls:
            low, high = [fraction(end) for end in one]
            if flip:
                low, high = 1 - high, 1 - low
            self.assertTrue(low <= fraction(two[0]) <= fraction(two[1]) <= high)
        calls = [(balance_ends(old), balance_ends(new))]
        calls += [(link_ends(old, x, y), link_ends(new, x, y)) for x in piece_spots(old.tilts)[::2]
                  for y in piece_spots(old.tilts)]
        for one, two in calls:
            self.assertTrue(fraction(one[0]) <= fraction(two[0]) <= fraction(two[1]) <= fraction(one[1]))
        return flip


class CountingTest(unittest.TestCase):
    """Point 141."""

    def test_linked_pairs_that_bring_something_new(self):
        source, counts = random.Random(12400), []
        for seed in range(8):
            world = random_world(12401 + seed, (2, 3, 2, 2, 2, 2), 2, low=1, alike=seed % 3)
            pairs = source.sample(list(itertools.combinations(range(6), 2)), 4 + seed % 6)
            for _ in range(2):
                source.shuffle(pairs)
                desk = Desk([world.made((look,)).entries for look in range(6)])
                count = 0
                for pair in pairs:
                    news = desk.see(pair, world.made(pair).entries)
                    if pair in desk.so_far.linked() and news.kinds[0][2] not in ("told", "sign"):
                        count += 1
                self.assertTrue(pairs_agree(desk.so_far))
                web = Web(desk.so_far)
                self.assertEqual(count, sum(len(piece) for piece in web.pieces) - web.free)
                counts.append(count)
        self.assertGreater(len(set(counts)), 2)


class OpenedNowTest(unittest.TestCase):
    """Point 143."""

    def test_by_kind(self):
        kinds = []
        source = random.Random(12500)
        for seed in range(16):
            world = random_world(12501 + seed, (2, 3, 2, 2, 2, 2), 2, low=1, alike=seed % 2)
            desk = Desk([world.made((look,)).entries for look in range(6)])
            pairs = list(itertools.combinations(range(6), 2))
            source.shuffle(pairs)
            if seed % 4 == 0:
                # Two rings first, which a pair of kind "sign" joins.
                pairs = [(0, 1), (1, 2), (0, 2), (3, 4), (4, 5), (3, 5)] + pairs
            seen = set()
            for pair in pairs:
                if pair in seen:
                    continue
                seen.add(pair)
                ahead = Web(desk.so_far)
                before = told_pairs(desk.so_far)
                news = desk.see(pair, world.made(pair).entries)
                if pair in desk.so_far.linked():
                    kind = news.kinds[0][2]
                    self.check(kind, news.opened_now, ahead, Web(desk.so_far), before)
                    kinds.append(kind)
        self.assertEqual(set(kinds), {"told", "side", "join", "sign", "loner"})

    def check(self, kind, opened_now, ahead, behind, before):
        many = range(len(ahead.sights.sizes))
        everything = list(itertools.combinations_with_replacement(many, 2))
        if kind == "told":
            self.assertEqual(opened_now, ())
        elif kind == "side":
            new = [pair for pair in behind.sights.pairs() if pair not in ahead.sights.pairs()][0]
            sides = ahead.sides_of(ahead.piece_of(new[0]))
            wanted = [pair for pair in everything if any(set(pair) <= set(side) for side in sides)]
            self.assertEqual(opened_now, tuple(wanted))
        else:
            still = set(behind.still) - set(ahead.still)
            wanted = [pair for pair in everything
                      if behind.walk(*pair, True) is not None and ahead.walk(*pair, True) is None
                      or set(pair) & still and pair not in before]
            self.assertEqual(opened_now, tuple(wanted))


class SeenThreesTest(unittest.TestCase):
    """Point 144."""

    def test_only_the_opened_tables(self):
        words, lots = [], 0
        for seed in range(6):
            world = random_world(12600 + seed, (2, 2, 3, 2), 2, low=1)
            if seed % 2:
                world = loose_world(12600 + seed, (2, 2, 3, 2), [(0, 1, 2), (2, 3)])
            sights = world.sights_of([(0, 1, 2), (2, 3)])
            if len(Web(sights).pieces) != 1 or len(Web(sights).pieces[0]) < 4:
                continue
            desk = Desk(sights.singles, seen=[(lot, sights.table(lot).entries) for lot in sights.lots])
            leans, web = Leans(sights, 0), Web(sights)
            for lot in ((0, 3), (1, 3), (0, 1, 3), (0, 2, 3), (1, 2, 3), (0, 1, 2, 3)):
                if len(lot) == 2:
                    self.assertEqual(pair_kind(web, *lot), "told")
                table = opened(leans, lot)
                if not table.fair:
                    with self.assertRaises(BadTable):
                        desk.tried(lot, table.entries)
                    self.assertEqual(desk.word, "loose")
                    continue
                self.assertEqual(desk.tried(lot, table.entries).behind, desk.word)
                words.append(desk.word)
                lots += self.other_tables(desk, lot, table)
        self.assertEqual(set(words), {"fair", "loose"})
        self.assertGreater(lots, 10)

    def other_tables(self, desk, lot, table):
        """Move the table where its margins leave it free; the word becomes "none"."""
        entries = [fraction(entry) for entry in table.entries]
        step = min(entry for entry in entries if entry > 0) / 2
        moved = []
        for row, entry in zip(rows(lot, desk.so_far.sizes), entries):
            moved.append(entry + step * (-1) ** sum(row) * (max(row) < 2))
        try:
            self.assertEqual(desk.tried(lot, [ratio(entry) for entry in moved]).behind, "none")
            return 1
        except (Disagrees, BadTable):
            return 0

    def test_two_pieces_with_threes(self):
        sights = beside(three(Fraction(1, 6), Fraction(1, 5)), three(Fraction(1, 8), Fraction(0)))
        self.assertEqual(stand(sights)[0], "none")
        part = three(Fraction(1, 6), Fraction(1, 5))
        sights = beside(part, part)
        desk = Desk(sights.singles, seen=[(lot, sights.table(lot).entries) for lot in sights.lots])
        self.assertTrue(all(desk.told(look, other) is not None for look in range(6) for other in range(6)))

    def test_a_lot_that_is_told_opens_nothing(self):
        entries = leaned_entries([HALF] * 4, FIVE, Fraction(1, 6), Fraction(1, 5), (0, 1, 2, 3))
        desk = Desk([HALF] * 4, seen=[((0, 1, 2), leaned_entries([HALF] * 4, FIVE, Fraction(1, 6), Fraction(1, 5),
                                                                 (0, 1, 2)))])
        news = desk.see((0, 1, 2, 3), entries)
        self.assertEqual((news.kinds, news.behind), (((0, 3, "loner"), (1, 3, "loner"), (2, 3, "loner")), "fair"))
        self.assertEqual(news.opened_now, ((0, 3), (1, 3), (2, 3), (3, 3)))


class WorldsOfFramesTest(unittest.TestCase):
    """Points 146 and 147."""

    LOTS = [[(0, 1), (1, 2)], [(0, 1, 2), (2, 3)], [(0, 1), (2, 3)], [(0, 1, 2, 3)], [(0, 1), (0, 2), (1, 2)],
            [(0, 3), (1, 3), (2, 3)], [(1, 2)], []]

    def test_a_fair_world_lies_between_the_ends(self):
        many = 0
        for seed, lots in enumerate(self.LOTS * 2):
            world = random_world(12700 + seed, (2, 3, 2, 3), 2, low=seed % 2, alike=seed % 3 == 2)
            sights = world.sights_of(lots)
            desk = Desk(sights.singles, seen=[(lot, sights.table(lot).entries) for lot in lots])
            self.assertEqual(desk.word, "fair")
            for pair in pairs_with_themselves(sights):
                table = desk.told(*pair)
                self.assertTrue(table is None or table == world.made(pair))
            for number in range(len(Web(sights).pieces)):
                self.check(desk, number, by_base(world, desk.frame(number).tilts.base))
                many += 1
        self.assertGreater(many, 12)

    def inside(self, number, ends):
        self.assertTrue(fraction(ends[0]) <= number <= fraction(ends[1]))

    def check(self, desk, number, world):
        frame, sights = desk.frame(number), desk.so_far
        tilts = frame.tilts
        self.inside(fraction(world.chances[0]), chance_ends(frame))
        for x in piece_spots(tilts):
            self.inside(numbers_of(world, x)[3], verdict_ends(frame, x))
            for y in piece_spots(tilts):
                self.inside(made_link(world, x, y), link_ends(frame, x, y))
        for looks in itertools.combinations(tilts.looks, 3):
            if tilts.ringed or not any(set(looks) <= set(side) for side in tilts.sides):
                for x, y, z in itertools.product(*[look_spots(sights, look)[:2] for look in looks]):
                    self.inside(made_twist(world, x, y, z), twist_ends(frame, x, y, z))
        piece = World(world.chances, [[sort[look] if look in tilts.looks else sights.singles[look]
                                       for look in range(len(sights.sizes))] for sort in world.sorts])
        self.assertIs(fair_worlds_of(frame, piece), True)
        if tilts.ringed:
            self.assertIs(frame.holds(piece.chances[0]), True)
            self.assertEqual(frame.at(piece.chances[0]), piece)
        else:
            self.assertIs(frame.holds(*frame.coordinates(piece)), True)
            self.assertEqual(frame.at(*frame.coordinates(piece)), piece)

    def test_two_worlds_of_one_frame(self):
        many = 0
        for seed, lots in enumerate([[(0, 1), (1, 2)], [(0, 1), (0, 2), (1, 2)], [(0, 1), (1, 2), (2, 3)]]):
            sights = random_world(12800 + seed, (2, 3, 2, 2), 2, low=1).sights_of(lots)
            frame = frame_of(sights, 0)
            tilts = frame.tilts
            for one, two in itertools.combinations(frame.end_worlds(), 2):
                for pair in itertools.combinations_with_replacement(tilts.looks, 2):
                    if tilts.told_table(*pair) is not None:
                        self.assertTrue(one.made(pair) == two.made(pair) == tilts.told_table(*pair))
                for lot in itertools.combinations(tilts.looks, 3):
                    self.assertNotEqual(one.made(lot), two.made(lot))
                    more = sights.adding(lot, one.made(lot).entries)
                    self.assertEqual(stand(more)[0], "fair")
                    self.assertEqual([each.made(lot) == more.table(lot) for each in (one, two)], [True, False])
                    many += 1
        self.assertGreater(many, 6)

    def test_never_met_spots_have_no_single(self):
        with self.assertRaises(NeverMet):
            World([(1, 2), (1, 2)], [[[1, 0]], [[1, 0]]]).sights_of([])


if __name__ == "__main__":
    unittest.main()
