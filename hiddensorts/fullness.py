"""Full lots: those that serve in place of the sort."""

from hiddensorts.apart import some_lot_of
from hiddensorts.errors import BadLot, BadNumber
from hiddensorts.lots import row_count
from hiddensorts.matrices import null_columns, rank
from hiddensorts.ratios import greatest, is_list, is_number, minus, negative, over, plus, times
from hiddensorts.worlds import World, row_shares


def chances_at(world, lot):
    """The chances of the rows of a lot in each sort, a tuple of tuples."""
    return tuple([tuple(row) for row in row_shares([(1, 1)] * len(world), world.sorts, lot)])


def lot_matrix(world, lot):
    """The chances of the lot: a row for each row of the lot, a column for each sort."""
    return chances_at(world, some_lot_of(lot, len(world.sizes)))


def is_full(world, lot):
    """Whether the chances of the lot have as great a rank as there are sorts."""
    return rank(lot_matrix(world, lot)) == len(world)


def pair_matrix(table, lot, other):
    """The entries of the table left out to two lots: a row for each row of the lot, a column for each of the other."""
    first = table.left_to(lot).asking
    second = table.left_to(other).asking
    if any([look in second for look in first]):
        raise BadLot(-1)
    places = [table.asking.index(look) for look in first + second]
    # Of the places in this order the last one goes fastest, so the sums come row after row.
    sums = table.sums_at(places)
    rows = sorted(list(sums))
    width = row_count(second, table.sizes)
    return tuple([tuple([sums[row] for row in rows[start:start + width]]) for start in range(0, len(rows), width)])


def table_rank(table, lot, other):
    """The rank of the pair matrix, an integer."""
    return rank(pair_matrix(table, lot, other))


def dependence(world, lot):
    """Numbers, one for each sort, whose sum times the chances is 0 at each row; None if the lot is full."""
    found = null_columns(lot_matrix(world, lot))
    return found[0] if found else None


def is_point(value):
    """Whether a value of any kind is a pair of numbers."""
    return is_list(value) and len(value) == 2 and is_number(value[0]) and is_number(value[1])


def yes_no_full(points):
    """Whether the rows (1, u, v, u v) of the points are linearly independent."""
    if not is_list(points) or len(points) == 0 or not all([is_point(point) for point in points]):
        raise BadNumber()
    return rank([[1, point[0], point[1], times(point[0], point[1])] for point in points]) == len(points)


def blind_sorts(world, numbers):
    """The sorts of the world with one look more, which has the chance 1/2 and a number more, or less; a list."""
    return [sort + ((plus((1, 2), number), minus((1, 2), number)),) for sort, number in zip(world.sorts, numbers)]


def blind_pair(world, lot):
    """Two Worlds with one look more that have the same table of it and the lot; None if the lot is full."""
    tie = dependence(world, lot)
    if tie is None:
        return None
    moves = [over(number, chance) for number, chance in zip(tie, world.chances)]
    most = greatest(moves + [negative(move) for move in moves])
    small = [over(move, times(2, most)) for move in moves]
    return (World(world.chances, blind_sorts(world, [(0, 1)] * len(world))),
            World(world.chances, blind_sorts(world, small)))
