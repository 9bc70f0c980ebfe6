"""Tables of askings."""

from hiddensorts.errors import BadLot, BadTable, NeverMet, NotSeen, OtherSizes
from hiddensorts.lots import (all_rows, asking_of, lot_of, row_count, row_index, row_of, rows_in_order, sizes_of,
                              spot_of)
from hiddensorts.ratios import as_ratio, is_list, is_number, over, sign_of, times, total


def entries_of(value, many, *, fair):
    """The entries of a table with so many rows, a tuple of ratios; if fair is True, none may be below 0."""
    if not is_list(value) or len(value) != many:
        raise BadTable(-1)
    for place, entry in enumerate(value):
        if not is_number(entry) or (fair and sign_of(entry) < 0):
            raise BadTable(place)
    if total(value) != (1, 1):
        raise BadTable(-1)
    return tuple([as_ratio(entry) for entry in value])


class Table:
    """The ratios that the rows of an asking have."""

    def __init__(self, asking, sizes, entries):
        self.sizes = sizes_of(sizes)
        self.asking = asking_of(asking, len(self.sizes))
        if not self.asking:
            raise BadLot(-1)
        self.entries = entries_of(entries, row_count(self.asking, self.sizes), fair=False)

    @staticmethod
    def rows_of(table):
        """The rows of the table's asking in order, a list."""
        return list(rows_in_order(table.asking, table.sizes))

    @property
    def fair(self):
        """Whether no entry is below 0."""
        return all([sign_of(entry) >= 0 for entry in self.entries])

    def __len__(self):
        return len(self.entries)

    def __iter__(self):
        return iter(self.entries)

    def __eq__(self, other):
        return (isinstance(other, Table) and self.asking == other.asking and self.sizes == other.sizes
                and self.entries == other.entries)

    def __mul__(self, other):
        if self.sizes != other.sizes:
            raise OtherSizes()
        if any([look in other.asking for look in self.asking]):
            raise BadLot(-1)
        asking = sorted(self.asking + other.asking)
        # No look is in both askings, so the look tells of which table a place is.
        mine = [place for place, look in enumerate(asking) if look in self.asking]
        theirs = [place for place, look in enumerate(asking) if look in other.asking]
        rows = all_rows(asking, self.sizes)
        entries = [times(self.entries[row_index(at_places(row, mine), self.asking, self.sizes)],
                         other.entries[row_index(at_places(row, theirs), other.asking, other.sizes)])
                   for row in rows]
        return Table(asking, self.sizes, entries)

    def at(self, row):
        """The entry at a row."""
        return self.entries[row_index(row_of(row, self.asking, self.sizes), self.asking, self.sizes)]

    def left_to(self, lot):
        """The Table left out to a lot: of each look of the lot the first place is kept."""
        chosen = lot_of(lot, len(self.sizes))
        for place, look in enumerate(chosen):
            if look not in self.asking:
                raise BadLot(place)
        if not chosen:
            raise BadLot(-1)
        places = [self.asking.index(look) for look in chosen]
        sums = self.sums_at(places)
        return Table(chosen, self.sizes, [sums[row] for row in rows_in_order(chosen, self.sizes)])

    def sums_at(self, places):
        """The sum of the entries for each row of answers at these places, a dict."""
        groups = {}
        for row, entry in zip(rows_in_order(self.asking, self.sizes), self.entries):
            groups.setdefault(at_places(row, places), []).append(entry)
        return {row: total(groups[row]) for row in groups}

    def given(self, spot):
        """The Table, of the other places, given a spot at the first place of its look."""
        look, answer = spot_of(spot, self.sizes)
        if look not in self.asking or len(self.asking) == 1:
            raise NotSeen((look,))
        place = self.asking.index(look)
        met = [entry for row, entry in zip(rows_in_order(self.asking, self.sizes), self.entries)
               if row[place] == answer]
        chance = total(met)
        if sign_of(chance) == 0:
            raise NeverMet((look, answer))
        asking = self.asking[:place] + self.asking[place + 1:]
        return Table(asking, self.sizes, [over(entry, chance) for entry in met])


def at_places(row, places):
    """The answers of a row at some places, a tuple."""
    return tuple([row[place] for place in places])
