"""Points 91, 92, 98 and 101 and the interface of hiddensorts/drawings.py."""

import itertools
import random
import unittest
from fractions import Fraction

from hiddensorts.across import one_teller
from hiddensorts.agreeing import pairs_agree
from hiddensorts.bounds import chance_ends
from hiddensorts.drawings import (Drawing, drawing_for, drawn_look, drawn_sights, draws, told_drawing, turns)
from hiddensorts.errors import (BadDrawing, BadLook, BadMatrix, BadSingle, BadSize, Clash, NoFair, OtherPiece,
                                OtherSide)
from hiddensorts.frames import frame_of
from hiddensorts.givens import given_sights
from hiddensorts.giving import bend, given_world
from hiddensorts.leans import Leans
from hiddensorts.bending import turned_spots
from hiddensorts.loose import world_at, world_with
from hiddensorts.matrices import multiply
from hiddensorts.roots import some_chance
from hiddensorts.sights import Sights
from hiddensorts.tilts import Tilts
from hiddensorts.webs import Web
from hiddensorts.worlds import World
from tests.oracles import beside, holds_reason
from tests.shares import across, fractions_of, pair_by_hand, product, random_drawing, random_matrix, ratios_of
from tests.test_frames import CHAIN, RING, RINGS, TREES, many_sights
from tests.tools import (FAR, HALF, NEAR, NO_INTEGERS, NO_LISTS, NO_NUMBERS, QUARTERS, as_it_looks, fraction,
                         random_world, ratio, spots)

NO_MATRICES = NO_LISTS + [[], [[]], [1], [[1], [1, 2]], [[1, 2], [1]], [[None]], [[1, "2"]], [(1, 2), 3], ["12"]]
BLUNT = Drawing([[(3, 4), (1, 4)], [(1, 4), (3, 4)]])


def random_drawings(source, columns, count, *, gaps=0.3):
    return [Drawing(random_drawing(source, source.randint(2, 4), columns, gaps=gaps)) for _ in range(count)]


def many_pieces():
    """Sights and numbers of pieces whose pairs agree, some looks drawn from others."""
    source = random.Random(9300)
    for turn, sights in enumerate(many_sights(TREES, 8) + many_sights(RINGS, 6)):
        yield sights, 0
        looks = Web(sights).pieces[0]
        look = source.choice(looks)
        yield drawn_sights(sights, look, Drawing(random_drawing(source, 2 + turn % 3, sights.sizes[look], gaps=0.1))), 0
        # An answer of this look is split into two, so each of the two looks is drawn from the other.
        size = sights.sizes[look]
        rows = [[1 if row == column else 0 for column in range(size)] for row in range(size - 1)]
        parts = [[0] * (size - 1) + [share] for share in ((1, 3), (2, 3))]
        yield drawn_sights(sights, look, Drawing(rows + parts)), 0


def worlds_of_piece(tilts):
    """Some worlds of a piece, fair or not."""
    if tilts.ringed:
        chance = some_chance(tilts)
        return [world_with(tilts, chance), world_with(tilts, ratio(1 - fraction(chance)))]
    return [world_at(tilts, s, t) for s, t in (((1, 1), (1, 1)), ((2, 3), (5, 1)), (3, (1, 7)))]


class DrawingTest(unittest.TestCase):

    def test_attributes(self):
        found = Drawing([[1, (1, 2), 0], ((0, 1), [2, 4], 1)])
        self.assertEqual((found.matrix, found.rows, found.columns, len(found)),
                         ((((1, 1), (1, 2), (0, 1)), ((0, 1), (1, 2), (1, 1))), 2, 3, 2))
        self.assertTrue(as_it_looks(found.matrix))
        self.assertEqual((Drawing([[1, 1, 1]]).rows, Drawing([[1], [0]]).columns), (1, 1))

    def test_refuses(self):
        for value in NO_MATRICES:
            with self.assertRaises(BadMatrix):
                Drawing(value)
        for value in NO_NUMBERS:
            with self.assertRaises(BadMatrix):
                Drawing([[2, value], [0, 1]])
        for matrix, column in (([[0, 1], [0, 0]], 0), ([[1, 1], [0, 1]], 1), ([[1, 2], [0, -1]], 1),
                               ([[2, 2], [-1, -1]], 0), ([[1, (1, 3)], [0, (1, 3)]], 1), ([[1, 1, 5]], 2),
                               ([[1, (3, 2), 9], [0, (-1, 2), 9]], 1)):
            with self.assertRaises(BadDrawing) as caught:
                Drawing(matrix)
            self.assertEqual(caught.exception.column, column)

    def test_same(self):
        for size in range(1, 7):
            found = Drawing.same(size)
            self.assertIs(type(found), Drawing)
            self.assertEqual(found.matrix, ratios_of([[int(a == b) for b in range(size)] for a in range(size)]))
            self.assertEqual(found * found, found)
        for value in NO_INTEGERS + [0, -1, (2, 1)]:
            with self.assertRaises(BadSize):
                Drawing.same(value)

    def test_call(self):
        source = random.Random(9301)
        for _ in range(20):
            rows, columns = source.randint(1, 6), source.randint(1, 6)
            matrix = random_drawing(source, rows, columns)
            numbers = [Fraction(source.randint(-5, 5), source.randint(1, 3)) for _ in range(columns)]
            found = Drawing(matrix)([list(ratio(number)) for number in numbers])
            wanted = product(fractions_of(matrix), [[number] for number in numbers])
            self.assertEqual(found, tuple(ratio(row[0]) for row in wanted))
        for value in NO_LISTS + [[], [1], [1, 2, 3], [1, None], [True, 1], [(1, 0), 1], "12"]:
            with self.assertRaises(BadMatrix):
                BLUNT(value)

    def test_one_after_the_other(self):
        source = random.Random(9302)
        for _ in range(20):
            sizes = [source.randint(1, 5) for _ in range(3)]
            one = Drawing(random_drawing(source, sizes[1], sizes[0]))
            two = Drawing(random_drawing(source, sizes[2], sizes[1]))
            both = one * two
            self.assertIs(type(both), Drawing)
            self.assertEqual(both.matrix, multiply(two.matrix, one.matrix))
            numbers = [source.randint(-3, 3) for _ in range(sizes[0])]
            self.assertEqual(both(numbers), two(one(numbers)))
        with self.assertRaises(BadDrawing) as caught:
            BLUNT * Drawing([[1, 1, 1]])
        self.assertEqual(caught.exception.column, -1)
        Drawing([[1, 1, 1], [0, 0, 0]]) * BLUNT

    def test_equal(self):
        self.assertTrue(Drawing([[1, 0], [0, 1]]) == Drawing.same(2))
        self.assertFalse(Drawing([[0, 1], [1, 0]]) == Drawing.same(2))
        for other in (None, Drawing.same(2).matrix, 2):
            self.assertFalse(Drawing.same(2) == other)

    def test_example(self):
        first = Drawing([[(9, 10), (1, 10)], [(1, 10), (9, 10)]])
        self.assertEqual((first([(3, 4), (1, 4)]), (first * first).matrix[0]),
                         (((7, 10), (3, 10)), ((41, 50), (9, 50))))

    def test_what_is_kept(self):
        matrix = [[1, [1, 2]], [0, [1, 2]]]
        found = Drawing(matrix)
        matrix[0][1][0] = 9
        matrix[1].clear()
        self.assertEqual(found.matrix, (((1, 1), (1, 2)), ((0, 1), (1, 2))))


class TurnsTest(unittest.TestCase):

    def test_turns(self):
        source = random.Random(9303)
        for _ in range(30):
            drawing = Drawing(random_drawing(source, source.randint(1, 5), source.randint(1, 5)))
            matrix = random_matrix(source, drawing.columns, source.randint(1, 4))
            end = product(fractions_of(drawing.matrix), matrix)
            self.assertIs(turns(drawing, ratios_of(matrix), [list(row) for row in ratios_of(end)]), True)
            end[source.randrange(len(end))][source.randrange(len(end[0]))] += Fraction(1, 7)
            self.assertIs(turns(drawing, ratios_of(matrix), ratios_of(end)), False)

    def test_refuses(self):
        good = [[1, 2, 3], [4, 5, 6]]
        for value in NO_MATRICES + [[[1, 2, 3]], [[1, 2, 3]] * 3, [[1, 2]] * 2, [[1, 2, 3, 4]] * 2]:
            with self.assertRaises(BadMatrix):
                turns(BLUNT, value, good)
            with self.assertRaises(BadMatrix):
                turns(BLUNT, good, value)
        self.assertIs(turns(BLUNT, good, good), False)
        self.assertIs(turns(Drawing.same(2), good, good), True)

    def test_drawing_for_finds_one(self):
        source = random.Random(9304)
        for turn in range(120):
            many, end, width = source.randint(1, 9), source.randint(1, 9), source.randint(1, 9)
            matrix = random_matrix(source, many, width, rank=None if turn % 3 else source.randint(1, 3))
            if turn % 7 == 0:
                matrix = [[Fraction(0)] * width for _ in range(many)]
            drawing = random_drawing(source, end, many, gaps=source.choice((0, 0.4, 0.8)))
            wanted = product(fractions_of(drawing), matrix)
            found = drawing_for(ratios_of(matrix), ratios_of(wanted))
            self.assertIs(type(found), Drawing)
            self.assertEqual((found.rows, found.columns), (end, many))
            self.assertIs(turns(found, ratios_of(matrix), ratios_of(wanted)), True)

    def test_drawing_for_finds_none(self):
        # test_parting shows of each such answer by stakes that there is none.
        for matrix, other in (([[1], [1]], [[3]]), ([[1, 0], [0, 1]], [[1, 1], [0, 1]]), ([[1, 1]], [[1, 0], [0, 1]]),
                              ([[(1, 2), (1, 2)], [(1, 2), (1, 2)]], [[1, 0], [0, 1]]), ([[0]], [[1]]),
                              ([[0, 0]], [[1, -1], [-1, 1]]), ([[2, 1], [1, 2]], [[3, 0], [0, 3]]),
                              ([[1, -1], [-1, 1]], [[2, -2], [-2, 2]])):
            self.assertIsNone(drawing_for(matrix, other))

    def test_edges(self):
        self.assertEqual(drawing_for([[1, 2]], [[1, 2]]), Drawing([[1]]))
        self.assertEqual(drawing_for([[1, 2], [3, 4]], [[4, 6]]), Drawing([[1, 1]]))
        self.assertIs(turns(drawing_for([[4, 6]], [[1, (3, 2)], [3, (9, 2)]]), [[4, 6]], [[1, (3, 2)], [3, (9, 2)]]),
                      True)
        self.assertIs(type(drawing_for([[0, 0], [0, 0]], [[0, 0]] * 3)), Drawing)

    def test_drawing_for_refuses(self):
        for value in NO_MATRICES + [[[1]], [[1, 2, 3]]]:
            with self.assertRaises(BadMatrix):
                drawing_for(value, [[1, 2]])
            with self.assertRaises(BadMatrix):
                drawing_for([[1, 2]], value)

    def test_large_numbers(self):
        source = random.Random(9305)
        matrix = [[Fraction(source.randint(0, 10 ** 30), source.randint(1, 10 ** 9)) for _ in range(4)]
                  for _ in range(5)]
        drawing = random_drawing(source, 4, 5)
        wanted = ratios_of(product(fractions_of(drawing), matrix))
        self.assertIs(turns(drawing_for(ratios_of(matrix), wanted), ratios_of(matrix), wanted), True)


class DrawsTest(unittest.TestCase):

    def test_in_each_sort(self):
        source = random.Random(9306)
        for seed in range(12):
            world = random_world(9310 + seed, (2, 3, 2), 1 + seed % 4, low=-(seed % 2))
            for look in range(3):
                for drawing in random_drawings(source, world.sizes[look], 3):
                    more = drawn_look(world, look, drawing)
                    self.assertEqual((more.chances, more.without(3)), (world.chances, world))
                    self.assertEqual(more.sizes, world.sizes + (drawing.rows,))
                    wanted = across([[row[0] for row in product(fractions_of(drawing.matrix),
                                                                [[fraction(f)] for f in sort[look]])]
                                     for sort in world.sorts])
                    self.assertEqual(across([[fraction(f) for f in sort[3]] for sort in more.sorts]), wanted)
                    self.assertIs(draws(more, look, 3, drawing), True)
                    self.check_others(more, look, drawing)

    def check_others(self, more, look, drawing):
        for other in range(4):
            fits = drawing.columns == more.sizes[look] and drawing.rows == more.sizes[other]
            wanted = fits and all(drawing(sort[look]) == sort[other] for sort in more.sorts)
            self.assertIs(draws(more, look, other, drawing), wanted)
        self.assertIs(draws(more, look, look, Drawing.same(more.sizes[look])), True)
        self.assertIs(draws(more, look, look, Drawing.same(more.sizes[look] + 1)), False)

    def test_not_in_one_sort(self):
        world = World([(1, 2), (1, 4), (1, 4)], [[[1, 0]] * 2, [[0, 1]] * 2, [[(1, 2), (1, 2)], [(1, 3), (2, 3)]]])
        self.assertIs(draws(world, 0, 1, Drawing.same(2)), False)
        self.assertIs(draws(world, 1, 1, Drawing.same(2)), True)

    def test_refuses(self):
        world = random_world(9330, (2, 3), 2)
        for look in NO_INTEGERS + [2, -1]:
            for call in (lambda: draws(world, look, 0, BLUNT), lambda: draws(world, 0, look, BLUNT),
                         lambda: drawn_look(world, look, BLUNT)):
                with self.assertRaises(BadLook):
                    call()
        for look, drawing in ((1, BLUNT), (0, Drawing([[1, 1]])), (0, Drawing([[1, 1]] + [[0, 0]] * 6)),
                              (0, Drawing.same(3))):
            with self.assertRaises(BadDrawing) as caught:
                drawn_look(world, look, drawing)
            self.assertEqual(caught.exception.column, -1)
        with self.assertRaises(BadLook):
            drawn_look(world, 2, Drawing([[1]]))
        self.assertEqual(drawn_look(world, 0, Drawing([[1, 1]] + [[0, 0]] * 5)).sizes, (2, 3, 6))

    def test_drawings_are_seen(self):
        # Point 92: the drawings that draw j from i are those that turn the table of i and l into that of j and l.
        source = random.Random(9307)
        words = []
        for seed in range(10):
            world = random_world(9340 + seed, (3, 2, 2), 2, low=-(seed % 2), alike=seed % 3 == 2)
            world = drawn_look(world, 0, random_drawings(source, 3, 1)[0])
            i, j, l = 0, 3, 1
            one, two = [ratios_of(pair_by_hand(world, (look,), (l,))) for look in (i, j)]
            for drawing in random_drawings(source, 3, 6) + [drawing_for(one, two)]:
                if drawing.rows != world.sizes[j]:
                    continue
                words.append(draws(world, i, j, drawing))
                self.assertEqual(turns(drawing, one, two), words[-1])
        self.assertEqual(set(words), {True, False})


class DrawnSightsTest(unittest.TestCase):

    def sights(self):
        for seed, lots in enumerate([[(0, 1), (1, 2)], [(0, 1, 2), (2, 3)], [(0, 1), (2, 3)], [(0, 1), (0, 2), (1, 2)],
                                     [(1, 3)], [(0, 1, 2, 3)]]):
            for low in (0, 1):
                yield random_world(9350 + 2 * seed + low, (2, 3, 2, 3), 2, low=low).sights_of(lots)
        yield beside(Sights([HALF] * 3, seen=RING), Sights([HALF] * 2, seen=[((0, 1), QUARTERS)]))
        yield Sights([HALF] * 3, seen=RING[:2] + [((1, 2), QUARTERS)])

    def test_singles_lots_and_tables(self):
        source = random.Random(9308)
        for sights in self.sights():
            for look in range(len(sights.sizes)):
                drawing = random_drawings(source, sights.sizes[look], 1, gaps=0)[0]
                more = drawn_sights(sights, look, drawing)
                n = len(sights.sizes)
                near = sorted({v for pair in sights.pairs() if look in pair for v in pair if v != look})
                self.assertEqual(more.singles, sights.singles + (drawing(sights.singles[look]),))
                self.assertEqual(more.lots, sights.lots + tuple((v, n) for v in near))
                for lot in sights.lots:
                    self.assertEqual(more.table(lot).entries, sights.table(lot).entries)
                for v in near:
                    matrix = [[sights.table(tuple(sorted((v, look)))).at((a, x) if v < look else (x, a))
                               for x in range(sights.sizes[look])] for a in range(sights.sizes[v])]
                    drawn = tuple(entry for row in matrix for entry in drawing(row))
                    self.assertEqual(more.table((v, n)).entries, drawn)
                self.assertEqual(pairs_agree(more), pairs_agree(sights))

    def test_the_sights_of_a_world_with_a_drawn_look(self):
        world = random_world(9360, (2, 3, 2), 3, low=0)
        more = drawn_look(world, 1, Drawing(random_drawing(random.Random(9361), 3, 3)))
        found = drawn_sights(world.sights_of([(0, 1), (1, 2)]), 1, Drawing(drawing_of(more, 1, 3)))
        self.assertEqual(found, more.sights_of([(0, 1), (1, 2), (0, 3), (2, 3)]))

    def test_refuses(self):
        sights = Sights([HALF] * 7, seen=[((0, 1), FAR)])
        gone = Drawing([[1, 1], [0, 0]])
        for look in NO_INTEGERS + [7, -1]:
            with self.assertRaises(BadLook):
                drawn_sights(sights, look, Drawing([[1]]))
        for drawing in (Drawing.same(3), Drawing([[1, 1]]), Drawing([[1, 1]] + [[0, 0]] * 6)):
            with self.assertRaises(BadDrawing) as caught:
                drawn_sights(sights, 0, drawing)
            self.assertEqual(caught.exception.column, -1)
        with self.assertRaises(BadSingle) as caught:
            drawn_sights(sights, 0, gone)
        self.assertEqual(caught.exception.look, 7)
        full = drawn_sights(sights, 0, BLUNT)
        for drawing, look in ((BLUNT, -1), (gone, 8)):
            with self.assertRaises(BadSingle) as caught:
                drawn_sights(full, 0, drawing)
            self.assertEqual(caught.exception.look, look)
        with self.assertRaises(BadDrawing):
            drawn_sights(full, 0, Drawing.same(3))

    def test_pieces_frames_and_told_tables(self):
        # Point 101.
        source = random.Random(9309)
        kinds = []
        for sights in many_sights(TREES, 10) + many_sights(RINGS, 8) + [Sights([HALF] * 4, seen=CHAIN)]:
            look = source.choice(Web(sights).pieces[0])
            for drawing in random_drawings(source, sights.sizes[look], 2, gaps=0) + [
                    Drawing([[(1, 2)] * sights.sizes[look]] * 2)]:
                kinds.append(self.check(sights, look, drawing))
        self.assertEqual(set(kinds), {(ringed, loner) for ringed in (True, False) for loner in (True, False)})

    def check(self, sights, look, drawing):
        more = drawn_sights(sights, look, drawing)
        n, web = len(sights.sizes), Web(more)
        old, new = Tilts(sights, 0), Tilts(more, 0)
        if web.piece_of(n) == -1:
            self.assertEqual(new.looks, old.looks)
        else:
            self.assertEqual(new.looks, old.looks + (n,))
            self.assertEqual([look in side for side in new.sides], [n in side for side in new.sides])
            for v in old.looks:
                if web.walk(v, look, True) is not None:
                    self.check_table(old, new, v, look, n, drawing)
        self.assertEqual((new.ringed, new.base), (old.ringed, old.base))
        self.assertEqual(self.ends(more), self.ends(sights))
        for side in range(1 if old.ringed else 2):
            self.assertEqual(one_teller(new, side), one_teller(old, side))
        return (old.ringed, web.piece_of(n) == -1)

    def check_table(self, old, new, v, look, n, drawing):
        size = old.sights.sizes[look]
        table = old.told_table(v, look)
        rows = [[table.at((a, x) if v <= look else (x, a)) for x in range(size)] for a in range(old.sights.sizes[v])]
        self.assertEqual(new.told_table(v, n).entries, tuple(entry for row in rows for entry in drawing(row)))

    def ends(self, sights):
        try:
            frame = frame_of(sights, 0)
        except NoFair:
            return None
        return (frame.low, frame.high) if frame.ringed else (frame.s_low, frame.s_high, frame.t_low, frame.t_high)


def drawing_of(world, look, other):
    """A matrix by which other is drawn from look in a world, found by its sorts."""
    one, two = [[[p * f for p, f in zip(map(fraction, world.chances), row)]
                 for row in across([[fraction(f) for f in sort[at]] for sort in world.sorts])] for at in (look, other)]
    return drawing_for(ratios_of(one), ratios_of(two)).matrix


class ToldDrawingTest(unittest.TestCase):

    def test_it_draws_in_all_worlds(self):
        found = []
        for sights, number in many_pieces():
            web, tilts = Web(sights), Tilts(sights, number)
            for look, other in itertools.permutations(tilts.looks, 2):
                if web.walk(look, other, False) is None:
                    continue
                drawing = told_drawing(sights, look, other)
                found.append(drawing is not None)
                thirds = [l for l in tilts.looks if l not in (look, other) and web.walk(l, look, True)
                          and web.walk(l, other, True)]
                for l in thirds:
                    one, two = self.matrix(tilts, look, l), self.matrix(tilts, other, l)
                    self.assertEqual(drawing_for(one, two) is not None, drawing is not None)
                    if drawing is not None:
                        self.assertIs(turns(drawing, one, two), True)
                if drawing is not None:
                    for world in worlds_of_piece(tilts):
                        self.assertIs(draws(world, look, other, drawing), True)
        self.assertGreater(min(found.count(True), found.count(False)), 20)

    def matrix(self, tilts, look, other):
        table = tilts.told_table(look, other)
        return [[table.at((a, b) if look < other else (b, a)) for b in range(tilts.sights.sizes[other])]
                for a in range(tilts.sights.sizes[look])]

    def test_refuses(self):
        sights = beside(Sights([HALF] * 4, seen=CHAIN), Sights([HALF] * 3, seen=RING[:2] + [((1, 2), QUARTERS)]),
                        Sights([HALF]))
        for look in NO_INTEGERS + [8, -1]:
            with self.assertRaises(BadLook):
                told_drawing(sights, look, 0)
            with self.assertRaises(BadLook):
                told_drawing(sights, 0, look)
        for look in (0, 4, 7):
            with self.assertRaises(BadLook):
                told_drawing(sights, look, look)
        for pair in ((0, 4), (4, 0), (0, 7), (7, 4), (4, 7)):
            with self.assertRaises(OtherPiece):
                told_drawing(sights, *pair)
        for pair in ((4, 5), (5, 6)):
            with self.assertRaises(Clash) as caught:
                told_drawing(sights, *pair)
            self.assertTrue(holds_reason(sights, caught.exception.reason, (4, 5, 6)))
        for pair in ((0, 1), (3, 0), (1, 2)):
            with self.assertRaises(OtherSide):
                told_drawing(sights, *pair)
        self.assertIs(type(told_drawing(sights, 0, 2)), Drawing)

    def test_loners(self):
        sights = Sights([HALF] * 3, seen=[((0, 1), FAR)])
        for pair in ((0, 2), (2, 1)):
            with self.assertRaises(OtherPiece):
                told_drawing(sights, *pair)
        with self.assertRaises(OtherPiece):
            told_drawing(Sights([HALF] * 2), 0, 1)

    def test_a_sharper_look_draws_a_blunter_one(self):
        sights = Sights([HALF] * 3, seen=[((0, 1), NEAR), ((1, 2), FAR)])
        self.assertEqual(told_drawing(sights, 0, 2), Drawing([[(2, 3), (1, 3)], [(1, 3), (2, 3)]]))
        self.assertIsNone(told_drawing(sights, 2, 0))


class GivenAnAnswerTest(unittest.TestCase):
    """Point 98."""

    def test_the_same_drawings_in_the_world_given_a_spot(self):
        source = random.Random(9370)
        many = 0
        for seed in range(8):
            world = random_world(9371 + seed, (3, 2, 2), 2, low=seed % 2)
            drawing = random_drawings(source, 3, 1)[0]
            world = drawn_look(world, 0, drawing)
            tries = [drawing] + random_drawings(source, 3, 5)
            for x in spots(world.sizes):
                if x[0] in (0, 3) or world.single(x) == (0, 1) or bend(world, x) == (0, 1):
                    continue
                less = given_world(world, x)
                for other in tries:
                    self.assertEqual(draws(less, 0, 3, other), draws(world, 0, 3, other))
                    many += 1
        self.assertGreater(many, 50)

    def test_told_drawings_in_given_sights(self):
        source = random.Random(9380)
        words = []
        for seed in range(6):
            world = random_world(9381 + seed, (2, 3, 2), 2, low=1)
            drawing = random_drawings(source, 3, 1, gaps=0)[0]
            world = drawn_look(world, 1, drawing)
            sights = world.sights_of([(0, 1, 2, 3)])
            if len(Web(sights).pieces[0]) < 4:
                continue
            leans = Leans(sights, 0)
            self.assertEqual(turned_spots(leans), [])
            for x in spots(sights.sizes):
                if leans.bend(x)[0] <= 0:
                    continue
                less = given_sights(leans, x)
                others = [look for look in range(4) if look != x[0]]
                for i, j in itertools.permutations(range(3), 2):
                    found, old = told_drawing(less, i, j), told_drawing(sights, others[i], others[j])
                    self.assertEqual(found is None, old is None)
                    words.append(found is None)
                    if found is not None:
                        self.check(leans.tilts, found, others[i], others[j])
                        self.check(Tilts(less, 0), old, i, j)
        self.assertGreater(min(words.count(True), words.count(False)), 5)

    def check(self, tilts, drawing, look, other):
        for world in worlds_of_piece(tilts):
            self.assertIs(draws(world, look, other, drawing), True)

    def test_sums_of_bends(self):
        words = []
        for sights, number in many_pieces():
            tilts = Tilts(sights, number)
            web = Web(sights)
            for world in worlds_of_piece(tilts)[:1]:
                sums = {look: sum(fraction(world.single((look, a))) * fraction(bend(world, (look, a)))
                                  for a in range(sights.sizes[look])) for look in tilts.looks}
                for i, j in itertools.permutations(tilts.looks, 2):
                    if web.walk(i, j, False) is None or told_drawing(sights, i, j) is None:
                        continue
                    back = told_drawing(sights, j, i) is not None
                    self.assertTrue(sums[j] == sums[i] if back else sums[j] > sums[i])
                    words.append(back)
        self.assertEqual(set(words), {True, False})


class FrameTest(unittest.TestCase):

    def test_chance_ends_stay(self):
        sights = many_sights(TREES, 1)[0]
        more = drawn_sights(sights, 0, Drawing(random_drawing(random.Random(3), 3, sights.sizes[0], gaps=0)))
        self.assertEqual(chance_ends(frame_of(more, 0)), chance_ends(frame_of(sights, 0)))


if __name__ == "__main__":
    unittest.main()
