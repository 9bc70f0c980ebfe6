"""What told leans tell of lots of a piece, seen or not."""

from hiddensorts.errors import BadLot, BadSpot
from hiddensorts.lots import asking_of
from hiddensorts.ratios import is_list, over, plus, product_of, times
from hiddensorts.tables import Table
from hiddensorts.threes import as_made
from hiddensorts.tilts import judge_look, piece_spot_of


def step_number(leans, many):
    """The number c_many, which times the product of the reaches is the part of so many spots."""
    found = [(1, 1), (0, 1)]
    top = leans.tilts.reach(leans.tilts.base)
    while len(found) <= many:
        found.append(plus(times(leans.slope, found[-1]), over(found[-2], top)))
    return found[many]


def part_by(leans, spots):
    """The part by leans of a list of spots of the piece."""
    if not is_list(spots):
        raise BadSpot()
    chosen = [piece_spot_of(spot, leans.tilts) for spot in spots]
    return product_of([step_number(leans, len(chosen))] + [leans.tilts.reach(spot) for spot in chosen])


def opened(leans, asking):
    """The Table of an asking of looks of the piece, as made."""
    sizes = leans.sights.sizes
    chosen = asking_of(asking, len(sizes))
    if not chosen:
        raise BadLot(-1)
    for look in chosen:
        judge_look(look, leans.tilts)
    return Table(chosen, sizes, as_made(leans.tilts, leans.slope, chosen))
