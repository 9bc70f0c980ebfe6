"""What several test files need: fractions beside ratios, and random worlds from a fixed seed."""

import itertools
import random
from fractions import Fraction

from hiddensorts.worlds import World

HALF = [(1, 2), (1, 2)]
NEAR = [(7, 16), (1, 16), (1, 16), (7, 16)]
FAR = [(5, 16), (3, 16), (3, 16), (5, 16)]
QUARTERS = [(1, 4)] * 4

NO_INTEGERS = [None, True, False, "1", 1.0, (1,), [1]]
NO_NUMBERS = [None, True, False, "1", 1.0, (), (1,), (1, 2, 3), (1, 0), (1, -2), (True, 2), (1, True), (1.0, 2),
              (1, "2"), {"top": 1}, {1, 2}, ((1, 2), 1), [[1, 2]], b"12"]
NO_LISTS = [None, 3, "01", {0: 1}, {0, 1}, b"01", iter([0, 1])]


def fraction(ratio):
    return Fraction(ratio[0], ratio[1]) if isinstance(ratio, (tuple, list)) else Fraction(ratio)


def ratio(value):
    value = Fraction(value)
    return (value.numerator, value.denominator)


def rows(asking, sizes):
    return list(itertools.product(*[range(sizes[look]) for look in asking]))


def random_chances(source, many, *, low=1, high=6):
    """Ratios of sum 1; each share is from low to high before it is divided, so below 0 where low is."""
    while True:
        shares = [source.randint(low, high) for _ in range(many)]
        whole = sum(shares)
        if whole > 0:
            return [(share, whole) for share in shares]


def random_world(seed, sizes, many, *, low=0, alike=0):
    """A world with chances that may be 0 (low 0), below 0 (low -1 and less); `alike` looks are dumb."""
    source = random.Random(seed)
    while True:
        chances = random_chances(source, many)
        shared = [random_chances(source, size) for size in sizes[:alike]]
        sorts = [shared + [random_chances(source, size, low=low) for size in sizes[alike:]] for _ in range(many)]
        world = World(chances, sorts)
        if all(world.single((look, answer))[0] > 0 for look, size in enumerate(sizes) for answer in range(size)):
            return world


def spots(sizes):
    return [(look, answer) for look, size in enumerate(sizes) for answer in range(size)]


def made_by_hand(world, asking):
    """The made entries, as fractions, straight from the definition."""
    found = []
    for row in rows(asking, world.sizes):
        entry = Fraction(0)
        for chance, sort in zip(world.chances, world.sorts):
            share = fraction(chance)
            for look, answer in zip(asking, row):
                share *= fraction(sort[look][answer])
            entry += share
        found.append(entry)
    return found


def as_it_looks(value):
    """Whether a value is made of tuples of plain integers, as what is returned must be."""
    if isinstance(value, tuple):
        return all(as_it_looks(entry) for entry in value)
    return type(value) is int
