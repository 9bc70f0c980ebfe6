"""Sorts thrown together."""

from hiddensorts.errors import BadSort
from hiddensorts.ratios import over, plus, times
from hiddensorts.worlds import World, sort_of


def two_sorts_of(world, sort, other):
    """Two different sorts of the world, the lesser one first."""
    pair = sorted([sort_of(sort, world), sort_of(other, world)])
    if pair[0] == pair[1]:
        raise BadSort()
    return tuple(pair)


def mean(chance, other_chance, shares):
    """The mean of two chances by the shares of two sorts that sum to 1."""
    return plus(times(shares[0], chance), times(shares[1], other_chance))


def thrown(world, sort, other):
    """The World of one sort less, the two thrown together at the place of the lesser number."""
    first, second = two_sorts_of(world, sort, other)
    chance = plus(world.chances[first], world.chances[second])
    shares = (over(world.chances[first], chance), over(world.chances[second], chance))
    merged = [[mean(one, two, shares) for one, two in zip(answers, other_answers)]
              for answers, other_answers in zip(world.sorts[first], world.sorts[second])]
    chances = list(world.chances)
    sorts = list(world.sorts)
    chances[first] = chance
    sorts[first] = merged
    del chances[second], sorts[second]
    return World(chances, sorts)


def unlike_looks(world, sort, other):
    """The number of looks in which two sorts differ."""
    return len([look for look in range(len(world.sizes)) if world.sorts[sort][look] != world.sorts[other][look]])


def may_throw(world, sort, other):
    """Whether two sorts differ in at most one look, so that thrown together they leave all made tables of lots."""
    first, second = two_sorts_of(world, sort, other)
    return unlike_looks(world, first, second) <= 1


def least_pair(world):
    """The least pair of sorts that differ in at most one look; None if there is none."""
    for sort in range(len(world)):
        for other in range(sort + 1, len(world)):
            if unlike_looks(world, sort, other) <= 1:
                return (sort, other)
    return None


def thrown_all(world):
    """The World that is left when the least pair that may be thrown together is, as long as there is one."""
    pair = least_pair(world)
    while pair is not None:
        world = thrown(world, pair[0], pair[1])
        pair = least_pair(world)
    return world
