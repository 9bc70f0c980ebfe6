"""Lots that say all that another one shows of the sort."""

from hiddensorts.apart import are_product, judge_fair, share_looks, some_lot_of
from hiddensorts.errors import BadLot
from hiddensorts.fullness import chances_at
from hiddensorts.ratios import sign_of
from hiddensorts.worlds import row_shares


def two_lots_of(world, lot, other):
    """Two lots of a fair world without a common look, none empty."""
    judge_fair(world)
    lots = (some_lot_of(lot, len(world.sizes)), some_lot_of(other, len(world.sizes)))
    if share_looks(lots):
        raise BadLot(-1)
    return lots


def alike_at(world, sort, other, lot):
    """Whether two sorts have the same chances of all rows of the lot."""
    # As the chances of each look sum to 1, those of the rows tell those of each look.
    return all([world.sorts[sort][look] == world.sorts[other][look] for look in lot])


def says_all(world, lot, other):
    """Whether the lot says all that other shows of the sort."""
    teller, shown = two_lots_of(world, lot, other)
    for row in chances_at(world, teller):
        met = [sort for sort, chance in enumerate(row) if sign_of(chance) > 0]
        if not all([alike_at(world, met[0], sort, shown) for sort in met]):
            return False
    return True


def sure_by(world, lot, third):
    """Whether, given each met row of the lot, third and third asked again are independent."""
    teller, stand_in = two_lots_of(world, lot, third)
    rows = chances_at(world, stand_in)
    return all([are_product(shares, rows, rows) for shares in row_shares(world.chances, world.sorts, teller)])


def unlike_at(world, lot):
    """Whether no two sorts have the same chances of all rows of the lot."""
    chosen = some_lot_of(lot, len(world.sizes))
    return not any([alike_at(world, sort, other, chosen) for sort in range(len(world)) for other in range(sort)])
