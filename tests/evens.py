"""What the tests of even webs share: webs of random worlds, webs without worlds, sewing and reasons by definition."""

import itertools
import random
from fractions import Fraction

from hiddensorts.errors import BadTable, NotEven
from hiddensorts.evens import EvenWeb
from hiddensorts.matrices import first_rows, positive, turned
from hiddensorts.sewing import sewn
from hiddensorts.sights import Sights
from hiddensorts.worlds import World
from tests.shares import fractions_of, product, rank_by_hand, ratios_of
from tests.tools import HALF, fraction, random_world, ratio, rows

SIDED = [[(0, 1)], [(0, 1), (1, 2)], [(0, 2), (1, 2)], [(0, 1), (1, 2), (2, 3)], [(0, 1), (1, 2), (2, 3), (0, 3)],
         [(0, 3), (1, 3), (2, 3)]]
RINGED = [[(0, 1), (1, 2), (0, 2)], [(0, 1, 2)], [(0, 1, 2), (2, 3)], [(0, 1), (1, 2), (0, 2), (2, 3)],
          [(0, 1), (0, 2), (0, 3), (1, 2), (1, 3), (2, 3)], [(0, 3), (1, 2), (2, 3), (1, 3)]]
# Sizes for webs of two, three and four sorts; most tables are not square.
SIZES = {2: (2, 3, 4, 2), 3: (3, 4, 3, 5), 4: (5, 4, 4, 6)}


def looks_of(lots):
    return max(look for lot in lots for look in lot) + 1


def even_world(seed, lots, many, *, low=0):
    """A world of so many sorts whose sights of the lots are an even web of this rank, and the web."""
    source = random.Random(seed)
    while True:
        world = random_world(source.randint(0, 10 ** 9), SIZES[many][:looks_of(lots)], many, low=low)
        if low < 0 and world.fair:
            continue
        try:
            web = EvenWeb(world.sights_of(lots))
        except (BadTable, NotEven):
            continue
        if web.rank == many:
            return world, web


def even_worlds(kinds, *, count=1, sorts=(2, 3, 4)):
    for number, lots in enumerate(kinds):
        for many in sorts:
            for turn in range(count):
                low = -1 if many == 2 and (number + turn) % 3 == 0 else turn % 2
                yield even_world(10000 + 97 * number + 13 * many + turn, lots, many, low=low)


def shrunk_tables(sights, pair, factor):
    """The sights with the links of one pair times a factor."""
    seen = []
    for lot in sights.lots:
        entries = sights.table(lot).entries
        if lot == pair:
            entries = []
            for row, entry in zip(rows(lot, sights.sizes), sights.table(lot).entries):
                plain = fraction(sights.singles[lot[0]][row[0]]) * fraction(sights.singles[lot[1]][row[1]])
                entries.append(ratio(plain + factor * (fraction(entry) - plain)))
        seen.append((lot, entries))
    return Sights(sights.singles, seen=seen)


def span_web():
    """Two looks of two answers, each seen with a look of three answers, along unlike directions."""
    third = [(1, 3)] * 3
    one = [ratio(Fraction(1, 6) + Fraction(a * b, 20)) for a in (1, -1, 0) for b in (1, -1)]
    two = [ratio(Fraction(1, 6) + Fraction(a * b, 20)) for a in (1, 1, -2) for b in (1, -1)]
    return EvenWeb(Sights([third, HALF, HALF], seen=[((0, 1), one), ((0, 2), two)]))


def sewn_web(*, ringed=False):
    """A ring of four looks one pair of which is too weak; with a look more that makes an odd ring, if asked for."""
    lots = [(0, 1), (1, 2), (2, 3), (0, 3)] + ([(0, 2)] if ringed else [])
    _, web = even_world(10901, lots, 3)
    return EvenWeb(shrunk_tables(web.sights, (2, 3), Fraction(1, 2)))


def below_web(many):
    """An odd ring whose matrices are as of so many sorts, one of them with a chance below 0."""
    source = random.Random(10950 + many)
    weights = [Fraction(-1, 5)] + [Fraction(6, 5 * (many - 1))] * (many - 1)
    while True:
        sorts = [[[Fraction(1, size) + Fraction(source.randint(-5, 5), 40) for _ in range(size - 1)]
                  for size in SIZES[many][:3]] for _ in range(many)]
        for sort in sorts:
            for look in sort:
                look.append(1 - sum(look))
        tables = []
        for look, other in ((0, 1), (0, 2), (1, 2)):
            tables.append([sum(w * sort[look][a] * sort[other][b] for w, sort in zip(weights, sorts))
                           for a in range(SIZES[many][look]) for b in range(SIZES[many][other])])
        singles = [[sum(w * sort[look][a] for w, sort in zip(weights, sorts)) for a in range(SIZES[many][look])]
                   for look in range(3)]
        if min(entry for table in tables + singles for entry in table) <= 0:
            continue
        seen = [(pair, [ratio(entry) for entry in table]) for pair, table in zip(((0, 1), (0, 2), (1, 2)), tables)]
        try:
            web = EvenWeb(Sights([[ratio(m) for m in single] for single in singles], seen=seen))
        except NotEven:
            continue
        if web.rank == many:
            return web


def inverse_by_hand(matrix):
    """The inverse of an invertible matrix of fractions."""
    many = len(matrix)
    work = [list(row) + [Fraction(int(a == b)) for b in range(many)] for a, row in enumerate(matrix)]
    for column in range(many):
        pivot = next(k for k in range(column, many) if work[k][column])
        work[column], work[pivot] = work[pivot], work[column]
        work[column] = [entry / work[column][column] for entry in work[column]]
        for k in range(many):
            if k != column:
                work[k] = [entry - work[k][column] * other for entry, other in zip(work[k], work[column])]
    return [row[many:] for row in work]


def seen_by_hand(sights, look, other):
    """The matrix of a seen pair, as fractions."""
    table = sights.table(tuple(sorted((look, other))))
    return [[fraction(table.at((a, b) if look < other else (b, a))) for b in range(sights.sizes[other])]
            for a in range(sights.sizes[look])]


def base_by_hand(sights, look, other):
    matrix = seen_by_hand(sights, look, other)
    places = first_rows(ratios_of(matrix))
    return places, first_rows(turned(ratios_of([matrix[place] for place in places])))


def sewn_by_hand(sights, walk):
    """Point 123, step by step."""
    found = seen_by_hand(sights, walk[0], walk[1])
    for k in range(2, len(walk), 2):
        y, x, v = walk[k - 1:k + 2]
        answers, others = base_by_hand(sights, x, y)
        middle = seen_by_hand(sights, x, y)
        back = inverse_by_hand([[middle[a][b] for b in others] for a in answers])
        left = [[row[b] for b in others] for row in found]
        right = [seen_by_hand(sights, x, v)[a] for a in answers]
        found = product(product(left, back), right)
    return ratios_of(found)


def made_matrix(world, look, other):
    """The made table of two looks, or of one asked again, rows by the answers of the first one."""
    weighed = [[fraction(p) * fraction(f) for f in sort[look]] for p, sort in zip(world.chances, world.sorts)]
    return ratios_of(product([list(column) for column in zip(*weighed)], fractions_of([sort[other]
                                                                                       for sort in world.sorts])))


def is_world_of(world, sights, many):
    """Whether a World is one of so many sorts that makes the singles and the tables of all seen pairs."""
    if len(world.chances) != many or world.sizes != sights.sizes:
        return False
    return all(made_matrix(world, *pair) == ratios_of(seen_by_hand(sights, *pair)) for pair in sights.pairs())


def walks_of(web, look, steps):
    """All walks of so many steps from a look."""
    walks = [(look,)]
    for _ in range(steps):
        walks = [walk + (other,) for walk in walks for pair in web.sights.pairs() for other in pair
                 if walk[-1] in pair and other != walk[-1]]
    return walks


def holds(web, why):
    """Whether a reason against an even web holds."""
    word, *rest = why
    sights = web.sights
    if word == "span":
        look, one, two = rest
        if not all(tuple(sorted((look, other))) in sights.pairs() for other in (one, two)):
            return False
        return rank_by_hand(seen_by_hand(sights, one, look) + seen_by_hand(sights, two, look)) > web.rank
    walk = rest[0]
    if type(walk) is not tuple or len(walk) % 2 or not walk:
        return False
    found = sewn(web, walk)
    if found != sewn_by_hand(sights, walk):
        return False
    if word == "sewn":
        ends = tuple(sorted((walk[0], walk[-1])))
        return ends in sights.pairs() and found != ratios_of(seen_by_hand(sights, walk[0], walk[-1]))
    if walk[0] != walk[-1]:
        return False
    if word == "even":
        return found != turned(found)
    return word == "below" and found == turned(found) and not positive(found)


def four_answers():
    """The table of point 128: rank 3 and worlds, but no fair one."""
    ring = {(0, 0), (0, 1), (1, 1), (1, 2), (2, 2), (2, 3), (3, 3), (3, 0)}
    entries = [(1, 8) if place in ring else 0 for place in itertools.product(range(4), repeat=2)]
    return EvenWeb(Sights([[(1, 4)] * 4] * 2, seen=[((0, 1), entries)]))


def spread_world(world, h, sides):
    """The world whose sorts are 1 + h times as far from the singles on side A, and 1 + h times nearer on side B."""
    looks = []
    for look, size in enumerate(world.sizes):
        factor = 1 + Fraction(h) if look in sides[0] else 1 / (1 + Fraction(h))
        singles = [sum(fraction(p) * fraction(sort[look][a]) for p, sort in zip(world.chances, world.sorts))
                   for a in range(size)]
        looks.append([[ratio(m + factor * (fraction(f) - m)) for m, f in zip(singles, sort[look])]
                      for sort in world.sorts])
    return World(world.chances, [[look[s] for look in looks] for s in range(len(world.chances))])
