"""Parts of rows, and twists."""

from hiddensorts.errors import NeverMet, NotSeen
from hiddensorts.lots import row_of, row_spots, spot_of
from hiddensorts.ratios import minus, over, sign_of, weighted


def single_at(table, row, place):
    """The single of a place of a row: the entry at its answer in the table left out to the place."""
    return table.sums_at([place])[(row[place],)]


def part(table, row):
    """The part of a row of the table's asking."""
    answers = row_of(row, table.asking, table.sizes)
    singles = [single_at(table, answers, place) for place in range(len(answers))]
    for spot, single in zip(row_spots(table.asking, answers), singles):
        if sign_of(single) <= 0:
            raise NeverMet(spot)
    values = list(table.entries)
    # A subset of the places keeps the last place (its entry over its single) or leaves it out (less the sum of all
    # its entries). So the last place is summed over with these weights, then the one before it, and so on.
    for place in range(len(answers) - 1, -1, -1):
        size = table.sizes[table.asking[place]]
        weights = [minus(over(1, singles[place]), 1) if answer == answers[place] else -1 for answer in range(size)]
        values = [weighted(weights, values[start:start + size]) for start in range(0, len(values), size)]
    return values[0]


def twist(sights, x, y, z):
    """The twist of spots of three looks that lie in one seen lot."""
    spots = sorted([spot_of(x, sights.sizes), spot_of(y, sights.sizes), spot_of(z, sights.sizes)])
    looks = tuple([spot[0] for spot in spots])
    if len(set(looks)) < 3:
        raise NotSeen(looks)
    return part(sights.table(looks), [spot[1] for spot in spots])
