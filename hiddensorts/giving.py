"""Worlds given a spot; splits, leans, bends, balances and covs."""

from hiddensorts.errors import NeverMet, NotFair
from hiddensorts.lots import lot_of, row_of, row_spots, spot_of
from hiddensorts.making import balance_of, judge_two, single_met, split_at
from hiddensorts.ratios import minus, over, product_of, sign_of, times
from hiddensorts.worlds import World, made_entry


def given_world(world, spot):
    """The World given the spot, of all looks."""
    chosen = spot_of(spot, world.sizes)
    single = single_met(world, chosen)
    found = [world.chance_at(which, chosen) for which in range(len(world))]
    if any([sign_of(chance) < 0 for chance in found]):
        raise NotFair()
    kept = [which for which, chance in enumerate(found) if sign_of(chance) > 0]
    chances = [over(times(world.chances[which], found[which]), single) for which in kept]
    return World(chances, [world.sorts[which] for which in kept])


def split(world, x):
    """The split of a spot, a ratio."""
    judge_two(world)
    return split_at(world, spot_of(x, world.sizes))


def lean(world, x):
    """The lean of a spot, a ratio."""
    judge_two(world)
    return times(minus(world.chances[1], world.chances[0]), split_at(world, spot_of(x, world.sizes)))


def bend_of(world, spots, entry):
    """The chances of the spots in both sorts, multiplied, over the square of the made entry of the spots."""
    chances = [sort[look][answer] for sort in world.sorts for look, answer in spots]
    return over(product_of(chances), times(entry, entry))


def bend(world, x):
    """The bend of a spot, a ratio."""
    judge_two(world)
    spot = spot_of(x, world.sizes)
    return bend_of(world, [spot], single_met(world, spot))


def balance(world):
    """The balance, a ratio."""
    judge_two(world)
    return balance_of(world)


def cov(world, y, z):
    """The made entry of two spots, less the product of their singles; the look may be asked again."""
    spot = spot_of(y, world.sizes)
    other = spot_of(z, world.sizes)
    return minus(made_entry(world, [spot, other]), times(world.single(spot), world.single(other)))


def row_bend(world, lot, row):
    """The bend of a row of a lot, a ratio; 1 for the row of the empty lot."""
    judge_two(world)
    chosen = lot_of(lot, len(world.sizes))
    answers = row_of(row, chosen, world.sizes)
    spots = row_spots(chosen, answers)
    entry = made_entry(world, spots)
    if sign_of(entry) == 0:
        raise NeverMet(answers)
    return bend_of(world, spots, entry)
