"""Bets on a spot at a price."""

from hiddensorts.errors import BadLot, BadSpot, NeverMet
from hiddensorts.fullness import pair_matrix
from hiddensorts.lots import spot_of
from hiddensorts.ratios import as_ratio, below, greatest, minus, over, sign_of, times, total


def judge_pair(table):
    """Refuse a table that is not one of two different looks."""
    if len(table.asking) != 2 or table.asking[0] == table.asking[1]:
        raise BadLot(-1)


def bet_spot_of(value, table):
    """The spot, if it is of one of the two looks of the table."""
    spot = spot_of(value, table.sizes)
    if spot[0] not in table.asking:
        raise BadSpot()
    return spot


def other_look(table, spot):
    """The look of the table that is not that of the spot."""
    return table.asking[0] if table.asking[1] == spot[0] else table.asking[1]


def shares_at(table, spot):
    """For each answer x of the other look the pair of the entry at x and the spot and the entry of x alone, a list."""
    rows = pair_matrix(table, (other_look(table, spot),), (spot[0],))
    return [(row[spot[1]], total(row)) for row in rows]


def worth_at(table, spot, price):
    """The worth of the bet on a spot at a price."""
    return total([greatest([0, minus(entry, times(price, whole))]) for entry, whole in shares_at(table, spot)])


def prices_at(table, spot):
    """The chances of a spot given the answers of the other look, a list."""
    found = []
    for answer, (entry, whole) in enumerate(shares_at(table, spot)):
        if sign_of(whole) == 0:
            raise NeverMet((other_look(table, spot), answer))
        found.append(over(entry, whole))
    return found


def bet_worth(table, spot, price):
    """The worth, by the other look of the table, of the bet on the spot at the price."""
    judge_pair(table)
    chosen = bet_spot_of(spot, table)
    return worth_at(table, chosen, as_ratio(price))


def prices(table, spot):
    """The chances of the spot given the answers of the other look, in order, a list."""
    judge_pair(table)
    return prices_at(table, bet_spot_of(spot, table))


def better_price(table, other_table, spot):
    """The first price by the table at which the bet is worth more by the other table; None if there is none."""
    judge_pair(table)
    judge_pair(other_table)
    chosen = bet_spot_of(spot, table)
    bet_spot_of(spot, other_table)
    for price in prices_at(table, chosen):
        if below(worth_at(table, chosen, price), worth_at(other_table, chosen, price)):
            return price
    return None
