"""Sights: the singles, and the tables of the lots that were seen."""

from hiddensorts.errors import BadLot, BadSingle, Disagrees, NotSeen
from hiddensorts.lots import (LEAST_ANSWERS, MOST_ANSWERS, MOST_LOOKS, is_below, lot_of, row_count,
                              spot_of)
from hiddensorts.ratios import as_ratio, is_list, is_number, minus, over, sign_of, times, total
from hiddensorts.tables import Table, entries_of


def are_singles(value):
    """Whether a value of any kind is the singles of one look."""
    if not is_list(value) or not LEAST_ANSWERS <= len(value) <= MOST_ANSWERS:
        return False
    if not all([is_number(entry) and sign_of(entry) > 0 for entry in value]):
        return False
    return total(value) == (1, 1)


def singles_of(value):
    """The singles, a tuple of tuples of ratios."""
    if not is_list(value) or not 1 <= len(value) <= MOST_LOOKS:
        raise BadSingle(-1)
    for look, entries in enumerate(value):
        if not are_singles(entries):
            raise BadSingle(look)
    return tuple([tuple([as_ratio(entry) for entry in entries]) for entries in value])


def seen_lot_of(lot, many):
    """A lot that may be seen: one of at least two looks."""
    chosen = lot_of(lot, many)
    if len(chosen) < 2:
        raise BadLot(-1)
    return chosen


def agreeing_table(singles, tables, lot, entries):
    """The Table of a further seen lot, if it agrees with the singles and the tables seen so far."""
    sizes = tuple([len(answers) for answers in singles])
    chosen = seen_lot_of(lot, len(sizes))
    table = Table(chosen, sizes, entries_of(entries, row_count(chosen, sizes), fair=True))
    for look in chosen:
        if table.left_to((look,)).entries != singles[look]:
            raise Disagrees(chosen, (look,))
    for other in tables:
        shared = tuple([look for look in chosen if look in other.asking])
        if len(shared) >= 2 and table.left_to(shared) != other.left_to(shared):
            raise Disagrees(chosen, other.asking)
    return table


def seen_tables(singles, seen):
    """The Tables of a list of pairs (lot, entries), in order."""
    if not is_list(seen):
        raise BadLot(-1)
    tables = []
    for pair in seen:
        if not is_list(pair) or len(pair) != 2:
            raise BadLot(-1)
        tables.append(agreeing_table(singles, tables, pair[0], pair[1]))
    return tables


def pairs_of(lot):
    """The pairs of looks of a lot, ascending, a list."""
    return [(look, other) for place, look in enumerate(lot) for other in lot[place + 1:]]


def pair_tables(tables):
    """The Table of each pair of looks that lies within the lot of one of the tables, a dict."""
    found = {}
    for table in tables:
        for pair in pairs_of(table.asking):
            if pair not in found:
                found[pair] = table.left_to(pair)
    return found


def lot_without(lot, look):
    """The lot less a look, by the numbers that the looks have when that look is gone."""
    return tuple([other - 1 if other > look else other for other in lot if other != look])


class Sights:
    """What was seen of the things."""

    def __init__(self, singles, *, seen=()):
        self.singles = singles_of(singles)
        self.sizes = tuple([len(answers) for answers in self.singles])
        self._keep(seen_tables(self.singles, seen))

    def _keep(self, tables):
        """Keep Tables that agree, in the order in which they came."""
        self._tables = tuple(tables)
        self.lots = tuple([table.asking for table in self._tables])
        self._by_lot = {table.asking: table.entries for table in self._tables}
        self._pairs = pair_tables(self._tables)

    def __eq__(self, other):
        return isinstance(other, Sights) and self.singles == other.singles and self._by_lot == other._by_lot

    def __contains__(self, x):
        return self.sees(x)

    def single(self, spot):
        """The single of a spot."""
        look, answer = spot_of(spot, self.sizes)
        return self.singles[look][answer]

    def sees(self, lot):
        """Whether the lot is seen as part, or has at most one look."""
        chosen = lot_of(lot, len(self.sizes))
        return len(chosen) < 2 or self._teller(chosen) is not None

    def _teller(self, lot):
        """The Table of the first seen lot that the lot lies within; None if there is none."""
        for table in self._tables:
            if all([look in table.asking for look in lot]):
                return table
        return None

    def table(self, lot):
        """The Table of a lot of one look, or of one that is seen as part."""
        chosen = lot_of(lot, len(self.sizes))
        if not chosen:
            raise BadLot(-1)
        if len(chosen) == 1:
            return Table(chosen, self.sizes, self.singles[chosen[0]])
        if chosen in self._pairs:
            return self._pairs[chosen]
        teller = self._teller(chosen)
        if teller is None:
            raise NotSeen(chosen)
        return teller.left_to(chosen)

    def link(self, x, y):
        """The link of two spots of a seen pair, in either order."""
        spots = sorted([spot_of(x, self.sizes), spot_of(y, self.sizes)])
        pair = tuple([spot[0] for spot in spots])
        if pair not in self._pairs:
            raise NotSeen(pair)
        entry = self._pairs[pair].at([spot[1] for spot in spots])
        return minus(over(entry, times(self.single(spots[0]), self.single(spots[1]))), 1)

    def pairs(self):
        """The seen pairs, ascending, a list."""
        return sorted(list(self._pairs))

    def linked(self):
        """The linked pairs, ascending, a list."""
        return [pair for pair in self.pairs() if self._is_linked(pair)]

    def _is_linked(self, pair):
        """Whether the table of a seen pair is not the product of the tables of its looks."""
        return self._pairs[pair] != self.table(pair[:1]) * self.table(pair[1:])

    def adding(self, lot, entries):
        """New Sights with one seen lot more, the last."""
        table = agreeing_table(self.singles, self._tables, lot, entries)
        more = Sights(self.singles)
        more._keep(self._tables + (table,))
        return more

    def without(self, look):
        """Sights of the other looks; the numbers above the look go down by one."""
        if not is_below(look, len(self.sizes)) or len(self.sizes) == 1:
            raise BadLot(0)
        seen = {}
        for table in self._tables:
            kept = tuple([other for other in table.asking if other != look])
            lot = lot_without(kept, look)
            # Sights agree, so two lots that are equal now have equal tables, and the first one serves.
            if len(lot) >= 2 and lot not in seen:
                seen[lot] = table.left_to(kept).entries
        singles = self.singles[:look] + self.singles[look + 1:]
        return Sights(singles, seen=[(lot, seen[lot]) for lot in seen])
