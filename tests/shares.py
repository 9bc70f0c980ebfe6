"""What the tests of stages 7 to 9 share: matrices of fractions, drawings, curves and worths by their definitions."""

from fractions import Fraction

from tests.tools import fraction, ratio, rows


def fractions_of(matrix):
    return [[fraction(entry) for entry in row] for row in matrix]


def ratios_of(matrix):
    return tuple(tuple(ratio(entry) for entry in row) for row in matrix)


def product(one, two):
    """The product of two matrices of fractions."""
    return [[sum(a * b for a, b in zip(row, column)) for column in zip(*two)] for row in one]


def across(matrix):
    return [list(row) for row in zip(*matrix)]


def chances_by_hand(world, lot):
    """The chances of the rows of a lot, a row for each, a column for each sort, as fractions."""
    found = []
    for row in rows(lot, world.sizes):
        shares = [Fraction(1)] * len(world.chances)
        for look, answer in zip(lot, row):
            shares = [share * fraction(sort[look][answer]) for share, sort in zip(shares, world.sorts)]
        found.append(shares)
    return found


def pair_by_hand(world, lot, other):
    """The pair matrix of the made table of two lots, as fractions."""
    weighed = [[share * fraction(p) for share, p in zip(row, world.chances)] for row in chances_by_hand(world, lot)]
    return product(weighed, across(chances_by_hand(world, other)))


def worth_by_hand(matrix, acts):
    """The worth of acts by a matrix, all as fractions."""
    return sum(max(sum(entry * number for entry, number in zip(row, act)) for act in acts) for row in matrix)


def height_by_hand(weights, tilts, u):
    """The height over u: the least, over the tilts t, of u t plus the sum of what the weighted tilts rise above t."""
    return min(t * u + sum(w * max(d - t, 0) for w, d in zip(weights, tilts)) for t in tilts)


def random_drawing(source, rows_wanted, columns, *, high=3, gaps=0.3):
    """The rows of a drawing, ratios; some entries are 0."""
    found = []
    for _ in range(columns):
        shares = [0 if source.random() < gaps else source.randint(1, high) for _ in range(rows_wanted)]
        if not any(shares):
            shares[source.randrange(rows_wanted)] = 1
        found.append([Fraction(share, sum(shares)) for share in shares])
    return ratios_of(across(found))


def random_matrix(source, many, width, *, low=-3, high=6, rank=None):
    """A matrix of fractions with small entries, of at most this rank."""
    if rank is None:
        return [[Fraction(source.randint(low, high), source.randint(1, 4)) for _ in range(width)] for _ in range(many)]
    left = [[Fraction(source.randint(low, high)) for _ in range(rank)] for _ in range(many)]
    right = [[Fraction(source.randint(low, high)) for _ in range(width)] for _ in range(rank)]
    return product(left, right)


def rank_by_hand(matrix):
    """The rank of a matrix of fractions."""
    work, found = [list(row) for row in matrix], 0
    for column in range(len(work[0])):
        pivot = next((k for k in range(found, len(work)) if work[k][column]), None)
        if pivot is None:
            continue
        work[found], work[pivot] = work[pivot], work[found]
        for k in range(found + 1, len(work)):
            factor = work[k][column] / work[found][column]
            work[k] = [entry - factor * other for entry, other in zip(work[k], work[found])]
        found += 1
    return found
