"""Telling looks, sure lots, sorts told apart, independent lots."""

from hiddensorts.errors import BadLot, NotFair
from hiddensorts.lots import lot_of
from hiddensorts.ratios import sign_of, times, total
from hiddensorts.worlds import row_shares, sort_of


def judge_fair(world):
    """Refuse a world that is not fair."""
    if not world.fair:
        raise NotFair()


def telling(world):
    """The telling looks, ascending, a tuple."""
    first = world.sorts[0]
    return tuple([look for look in range(len(world.sizes))
                  if any([sort[look] != first[look] for sort in world.sorts])])


def parts_them(chances, others):
    """Whether no answer is met both with these chances and with the other ones."""
    return all([sign_of(chance) == 0 or sign_of(other) == 0 for chance, other in zip(chances, others)])


def looks_apart(world, sort, other):
    """The looks, ascending, that tell two sorts apart, a list."""
    return [look for look in range(len(world.sizes))
            if parts_them(world.sorts[sort][look], world.sorts[other][look])]


def is_sure(world, lot):
    """Whether each row of the lot that is met in some sort is met in that sort only."""
    judge_fair(world)
    chosen = lot_of(lot, len(world.sizes))
    # A row met in two sorts has, at each look, an answer met in both; so one look must tell the two apart.
    for sort in range(len(world)):
        for other in range(sort):
            if not any([look in chosen for look in looks_apart(world, sort, other)]):
                return False
    return True


def told_apart(world, sort, other):
    """The looks, ascending, at which no answer is met in both sorts, a tuple."""
    judge_fair(world)
    return tuple(looks_apart(world, sort_of(sort, world), sort_of(other, world)))


def some_lot_of(value, many):
    """The lot, if it is not empty."""
    chosen = lot_of(value, many)
    if not chosen:
        raise BadLot(-1)
    return chosen


def share_looks(lots):
    """Whether a look is in two of the lots."""
    looks = [look for lot in lots for look in lot]
    return len(set(looks)) < len(looks)


def independent(world, first, second, rest):
    """Whether the lots first and second are independent given the lot rest."""
    judge_fair(world)
    many = len(world.sizes)
    lots = [some_lot_of(first, many), some_lot_of(second, many), lot_of(rest, many)]
    if share_looks(lots):
        raise BadLot(-1)
    ones = [(1, 1)] * len(world)
    rows = row_shares(ones, world.sorts, lots[0])
    other_rows = row_shares(ones, world.sorts, lots[1])
    met = row_shares(world.chances, world.sorts, lots[2])
    return all([are_product(shares, rows, other_rows) for shares in met])


def are_product(shares, rows, other_rows):
    """Whether, with these shares of the sorts (not of sum 1), each two rows come together by the product rule."""
    whole = total(shares)
    columns = [total(shared(shares, other)) for other in other_rows]
    for row in rows:
        weights = shared(shares, row)
        weight = total(weights)
        for other, column in zip(other_rows, columns):
            if times(total(shared(weights, other)), whole) != times(weight, column):
                return False
    return True


def shared(shares, row):
    """The shares of the sorts, each times the chance of the row in that sort; a list."""
    return [times(share, chance) for share, chance in zip(shares, row)]
