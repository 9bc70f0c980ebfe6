"""Worlds of two sorts behind the pairs of a piece, or of all pieces; they need not be fair."""

from hiddensorts.agreeing import reason
from hiddensorts.errors import BadNumber, Clash, IsTold, NeedsRoot, NeedsRoots
from hiddensorts.links import look_spots
from hiddensorts.ratios import as_ratio, below, minus, negative, over, plus, root_of, sign_of, times
from hiddensorts.tilts import Tilts, judge_sided
from hiddensorts.webs import Web
from hiddensorts.worlds import World


def above_zero(value):
    """The ratio equal to a number, if it is above 0."""
    ratio = as_ratio(value)
    if sign_of(ratio) <= 0:
        raise BadNumber()
    return ratio


def open_chance(value):
    """The ratio equal to a number, if it lies between 0 and 1 and is neither."""
    ratio = above_zero(value)
    if not below(ratio, 1):
        raise BadNumber()
    return ratio


def moved(tilts, look, factor):
    """The chances of a look whose singles rise by the reaches of its spots times a factor, a list."""
    return [times(tilts.sights.single(spot), plus(1, times(factor, tilts.reach(spot))))
            for spot in look_spots(look, tilts.sights.sizes)]


def moved_sort(tilts, factors):
    """The chances of all looks in a sort: by a factor for each side, those of the looks outside left as they are."""
    sort = list(tilts.sights.singles)
    for looks, factor in zip(tilts.sides, factors):
        for look in looks:
            sort[look] = moved(tilts, look, factor)
    return sort


def sided_world(tilts, s, t):
    """The World at (s, t) of a sided piece, two ratios above 0."""
    chances = [over(t, plus(s, t)), over(s, plus(s, t))]
    sorts = [moved_sort(tilts, (s, over(1, t))), moved_sort(tilts, (negative(t), over(-1, s)))]
    return World(chances, sorts)


def own_link(tilts):
    """The told link of the base spot and itself, in a ringed piece."""
    return tilts.reach(tilts.base)


def root_number(tilts, p):
    """The number that must be a square for a ringed piece to have a world with the chance p."""
    return times(times(p, minus(1, p)), own_link(tilts))


def ringed_world(tilts, p):
    """The World with the chance p of sort 0 of a ringed piece."""
    number = root_number(tilts, p)
    root = root_of(number)
    if root is None:
        raise NeedsRoot(number)
    rise = over(root, times(p, own_link(tilts)))
    fall = over(root, times(minus(1, p), own_link(tilts)))
    # The second side of a ringed piece is empty, so one factor is enough.
    return World([p, minus(1, p)], [moved_sort(tilts, (rise,)), moved_sort(tilts, (negative(fall),))])


def world_at(tilts, s, t):
    """The World at (s, t) of a sided piece."""
    judge_sided(tilts)
    return sided_world(tilts, above_zero(s), above_zero(t))


def world_with(tilts, p):
    """A World of the piece with the chance p of sort 0."""
    chance = open_chance(p)
    if tilts.ringed:
        return ringed_world(tilts, chance)
    return sided_world(tilts, over(minus(1, chance), chance), (1, 1))


def two_worlds(tilts, x, y):
    """Two Worlds of the piece with unlike links of x and y, a tuple."""
    if tilts.told(x, y) is not None:
        raise IsTold()
    # Within a side the link goes with s t or with 1 / (s t).
    return (sided_world(tilts, (1, 1), (1, 1)), sided_world(tilts, (2, 1), (1, 1)))


def all_tilts(sights):
    """The Tilts of all pieces, a list."""
    why = reason(sights)
    if why is not None:
        raise Clash(why)
    return [Tilts(sights, number) for number in range(len(Web(sights).pieces))]


def unlike_ring(pieces):
    """The Tilts of two ringed pieces, the first one and the first that does not go with it; None if there are none."""
    rings = [tilts for tilts in pieces if tilts.ringed]
    for tilts in rings:
        if root_of(over(own_link(tilts), own_link(rings[0]))) is None:
            return (rings[0], tilts)
    return None


def first_chance(tilts):
    """The chance of sort 0 that a world of the piece surely has."""
    return over(1, plus(1, own_link(tilts))) if tilts.ringed else (1, 2)


def shared_chance(pieces):
    """A chance of sort 0 with which each piece has a world, if the ringed ones go together."""
    rings = [tilts for tilts in pieces if tilts.ringed]
    return first_chance(rings[0]) if rings else (1, 2)


def world_of_all(sights):
    """A World of two sorts that makes the singles and the tables of all seen pairs."""
    pieces = all_tilts(sights)
    unlike = unlike_ring(pieces)
    if unlike is not None:
        raise NeedsRoots(unlike[0].base, unlike[1].base)
    chance = shared_chance(pieces)
    sorts = [list(sights.singles), list(sights.singles)]
    for tilts in pieces:
        world = world_with(tilts, chance)
        for which in range(2):
            for look in tilts.looks:
                sorts[which][look] = world.sorts[which][look]
    return World([chance, minus(1, chance)], sorts)


def has_shape(tilts, world):
    """Whether a World has two sorts and the sizes of the sights."""
    return len(world) == 2 and world.sizes == tilts.sights.sizes


def sided_place(tilts, world):
    """The pair (s, t) of ratios at which a World stands; None if it is no world of the sided piece."""
    if not has_shape(tilts, world):
        return None
    rise = over(minus(world.chance_at(0, tilts.base), world.chance_at(1, tilts.base)), tilts.sights.single(tilts.base))
    if sign_of(rise) <= 0:
        return None
    s = times(world.chances[1], rise)
    t = times(world.chances[0], rise)
    return (s, t) if world == sided_world(tilts, s, t) else None


def is_world_of(tilts, world):
    """Whether a World is a world of the piece, fair or not."""
    if not tilts.ringed:
        return sided_place(tilts, world) is not None
    if not has_shape(tilts, world) or root_of(root_number(tilts, world.chances[0])) is None:
        return False
    return world == ringed_world(tilts, world.chances[0])
