"""What worlds make: side by side, zeros, step numbers, tables by parts."""

from hiddensorts.errors import BadChances, BadLot, BadNumber, NeverMet, NotTwo
from hiddensorts.lots import asking_of, row_spots, rows_in_order, spots_in_order
from hiddensorts.ratios import is_int, minus, over, plus, product_of, sign_of, times, total
from hiddensorts.tables import Table


def side_by_side(*worlds):
    """All Worlds side by side, in this order."""
    if not worlds:
        raise BadChances()
    found = worlds[0]
    for world in worlds[1:]:
        found = found + world
    return found


def zeros(world):
    """The pairs (sort, spot) with chance 0, ascending, a list."""
    found = []
    for which in range(len(world)):
        for spot in spots_in_order(world.sizes):
            if sign_of(world.chance_at(which, spot)) == 0:
                found.append((which, spot))
    return found


def judge_two(world):
    """Refuse a world that does not have two sorts."""
    if len(world) != 2:
        raise NotTwo()


def balance_of(world):
    """The product of the chances of a world of two sorts."""
    return times(world.chances[0], world.chances[1])


def step_numbers(world, many):
    """The step numbers C_0 .. C_many of a world of two sorts, a tuple."""
    judge_two(world)
    if not is_int(many) or many < 0:
        raise BadNumber()
    skew = minus(world.chances[1], world.chances[0])
    balance = balance_of(world)
    found = [(1, 1), (0, 1)]
    while len(found) <= many:
        found.append(plus(times(skew, found[-1]), times(balance, found[-2])))
    return tuple(found[:many + 1])


def single_met(world, spot):
    """The single of a spot, if it is not 0."""
    single = world.single(spot)
    if sign_of(single) == 0:
        raise NeverMet(spot)
    return single


def split_at(world, spot):
    """The split of a spot of a world of two sorts; NeverMet if its single is 0."""
    return over(minus(world.chance_at(0, spot), world.chance_at(1, spot)), single_met(world, spot))


def subset_sums(splits):
    """For k = 0, 1, .. the sum, over the subsets of k splits, of their product; a list."""
    sums = [(1, 1)]
    for split in splits:
        longer = [(0, 1)] + [times(split, number) for number in sums]
        sums = [plus(number, other) for number, other in zip(sums + [(0, 1)], longer)]
    return sums


def entry_by_parts(singles, splits, steps):
    """The entry at a row, by the singles and the splits of its spots and the step numbers."""
    # The part of k spots is C_k times the product of their splits, so the subsets of one length share C_k.
    parts = [times(step, number) for step, number in zip(steps, subset_sums(splits))]
    return product_of(singles + [total(parts)])


def made_by_parts(world, asking):
    """The Table that a world of two sorts makes, computed from its singles, splits and step numbers."""
    judge_two(world)
    chosen = asking_of(asking, len(world.sizes))
    if not chosen:
        raise BadLot(-1)
    splits = {spot: split_at(world, spot) for spot in spots_in_order(world.sizes) if spot[0] in chosen}
    singles = {spot: world.single(spot) for spot in splits}
    steps = step_numbers(world, len(chosen))
    entries = []
    for row in rows_in_order(chosen, world.sizes):
        spots = row_spots(chosen, row)
        entries.append(entry_by_parts([singles[spot] for spot in spots], [splits[spot] for spot in spots], steps))
    return Table(chosen, world.sizes, entries)
