"""Checks straight from the definitions, in fractions, that the tests of several modules share."""

import itertools
import random
from fractions import Fraction

from hiddensorts.sights import Sights
from hiddensorts.walks import along
from hiddensorts.webs import Web
from tests.tools import fraction, random_chances, ratio, spots


def single(sights, spot):
    return fraction(sights.singles[spot[0]][spot[1]])


def link(sights, x, y):
    """The link of two spots of a seen pair."""
    first, last = sorted([x, y])
    entry = fraction(sights.table((first[0], last[0])).at((first[1], last[1])))
    return entry / (single(sights, first) * single(sights, last)) - 1


def made_link(world, x, y):
    """The link that a world makes for two spots, of one look asked again too."""
    entry = sum(fraction(p) * fraction(sort[x[0]][x[1]]) * fraction(sort[y[0]][y[1]])
                for p, sort in zip(world.chances, world.sorts))
    return entry / (world_single(world, x) * world_single(world, y)) - 1


def world_single(world, x):
    return sum(fraction(p) * fraction(sort[x[0]][x[1]]) for p, sort in zip(world.chances, world.sorts))


def numbers_of(world, x):
    """The split, lean, bend and verdict of a spot in a world of two sorts."""
    p, q = [fraction(chance) for chance in world.chances]
    f, g = [fraction(sort[x[0]][x[1]]) for sort in world.sorts]
    m = p * f + q * g
    return ((f - g) / m, (q - p) * (f - g) / m, f * g / m ** 2, p * f / m)


def made_twist(world, x, y, z):
    """The twist that a world makes, by its definition as a sum over the subsets of the places."""
    found = Fraction(0)
    for many in range(4):
        for chosen in itertools.combinations((x, y, z), many):
            entry = Fraction(0)
            for p, sort in zip(world.chances, world.sorts):
                share = fraction(p)
                for look, answer in chosen:
                    share *= fraction(sort[look][answer])
                entry += share
            for spot in chosen:
                entry /= world_single(world, spot)
            found += (-1) ** (3 - many) * entry
    return found


def makes_pairs(world, sights, pairs):
    """Whether a world makes the singles and the tables of these pairs."""
    singles = all(world_single(world, spot) == single(sights, spot) for spot in spots(sights.sizes))
    return world.sizes == sights.sizes and singles and all(
        made_link(world, x, y) == link(sights, x, y)
        for look, other in pairs for x in look_spots(sights, look) for y in look_spots(sights, other))


def look_spots(sights, look):
    return [(look, answer) for answer in range(sights.sizes[look])]


def pairs_within(sights, looks):
    return [pair for pair in sights.pairs() if set(pair) <= set(looks)]


def is_piece_world(world, sights, number, base):
    """Whether a World is a world of the piece, by point 38."""
    piece = Web(sights).pieces[number]
    if len(world) != 2 or world.sizes != sights.sizes:
        return False
    dumb = all(world.sorts[0][look] == world.sorts[1][look] for look in range(len(sights.sizes)) if look not in piece)
    above = fraction(world.chance_at(0, base)) > fraction(world.chance_at(1, base))
    return dumb and above and makes_pairs(world, sights, pairs_within(sights, piece))


def all_told(sights, x, steps, rounds):
    """The links that odd walks tell for x, by any choice of inner spots: a dict of sets by the last spots."""
    links = {(a, b): link(sights, a, b) for pair in steps for a in look_spots(sights, pair[0])
             for b in look_spots(sights, pair[1])}
    links.update({(b, a): value for (a, b), value in links.items()})
    told, inner = {}, {x: {Fraction(1)}}
    for _ in range(rounds):
        further = {}
        for here, values in inner.items():
            for (spot, near), value in links.items():
                if spot == here:
                    told.setdefault(near, set()).update(value * before for before in values)
                    for (start, far), between in links.items():
                        if start == near and between != 0:
                            further.setdefault(far, set()).update(before * value / between for before in values)
        if any(len(values) > 1 for values in told.values()):
            return told
        inner = further
    return told


def agree_by_definition(sights, looks=None):
    """Point 34, walks up to some steps; of the looks in these pieces alone, if any are given."""
    web = Web(sights)
    joined = [look for piece in web.pieces for look in piece if looks is None or look in looks]
    linked = [pair for pair in sights.linked() if set(pair) <= set(joined)]
    for u, v in linked:
        for x, x2 in itertools.product(look_spots(sights, u), repeat=2):
            for y, y2 in itertools.product(look_spots(sights, v), repeat=2):
                if link(sights, x, y) * link(sights, x2, y2) != link(sights, x, y2) * link(sights, x2, y):
                    return False
    if any(set(pair) <= set(joined) and pair not in linked for pair in sights.pairs()):
        return False
    for look in joined:
        for x in look_spots(sights, look):
            told = all_told(sights, x, linked, len(joined) + 1)
            if any(len(values) > 1 for values in told.values()) or min(told.get(x, {0})) < 0:
                return False
    return True


def holds_reason(sights, why, looks=None):
    """Whether a reason of point 35 holds; with looks of this piece alone, if they are given."""
    word, *rest = why
    web = Web(sights)
    inside = set(range(len(sights.sizes))) if looks is None else set(looks)
    if word == "rank":
        x, y, x2, y2 = rest
        pair = tuple(sorted([x[0], y[0]]))
        return (x[0] == x2[0] and y[0] == y2[0] and pair in sights.linked() and set(pair) <= inside
                and link(sights, x, y) * link(sights, x2, y2) != link(sights, x, y2) * link(sights, x2, y))
    if word == "apart":
        u, v = rest
        return (u < v and (u, v) in sights.pairs() and (u, v) not in sights.linked() and {u, v} <= inside
                and web.piece_of(u) >= 0 and web.piece_of(v) >= 0)
    if word == "walks":
        x, y, walk, other = rest
        return (type(walk) is tuple and type(other) is tuple and set(walk + other) <= inside
                and along(sights, walk, x, y) != along(sights, other, x, y))
    x, walk = rest
    return word == "ring" and set(walk) <= inside and fraction(along(sights, walk, x, x)) < 0


def linked_sights(singles, vectors, factors, *, seen=()):
    """Sights of pairs with the links factor * vector * vector; the vectors' means by the singles are 0."""
    found = []
    for (u, v), factor in factors.items():
        found.append(((u, v), [ratio(fraction(singles[u][a]) * fraction(singles[v][b])
                                     * (1 + Fraction(factor) * vectors[u][a] * vectors[v][b]))
                               for a in range(len(singles[u])) for b in range(len(singles[v]))]))
    return Sights(singles, seen=found + list(seen))


def random_vectors(source, singles):
    """A vector for each look that is not 0 throughout, of mean 0 by the singles; some entries may be 0."""
    found = []
    for chances in singles:
        while True:
            vector = [Fraction(source.randint(-3, 3)) for _ in chances]
            mean = sum(fraction(m) * number for m, number in zip(chances, vector))
            vector = [number - mean for number in vector]
            if any(vector):
                break
        found.append(vector)
    return found


def random_web_sights(seed, sizes, pairs, *, pick=(1,), scale=40, base=2):
    """Sights with these linked pairs; a factor is one of `pick` over the scale, so the pairs agree or they do not."""
    source = random.Random(seed)
    singles = [random_chances(source, size, high=3) for size in sizes]
    vectors = random_vectors(source, singles)
    powers = [Fraction(base) ** source.randint(-1, 1) for _ in sizes]
    factors = {(u, v): Fraction(source.choice(pick)) * powers[u] * powers[v] / scale for u, v in pairs}
    return linked_sights(singles, vectors, factors)


def beside(*parts):
    """Sights of several sights beside each other."""
    singles, seen = [], []
    for part in parts:
        shift = len(singles)
        singles += list(part.singles)
        seen += [([look + shift for look in lot], part.table(lot).entries) for lot in part.lots]
    return Sights(singles, seen=seen)
