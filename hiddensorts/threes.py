"""What seen threes tell of a piece: leans, and the tables that are made by them."""

from hiddensorts.links import look_spots
from hiddensorts.lots import all_rows
from hiddensorts.ratios import minus, over, plus, product_of, times, total


def triples_of(looks):
    """All threes of different looks of an ascending list, a list."""
    return [(look, near, far) for place, look in enumerate(looks)
            for next_place, near in enumerate(looks[place + 1:], start=place + 1) for far in looks[next_place + 1:]]


def holds_three(sights, looks):
    """Whether some seen lot has three of these looks."""
    return any([len([look for look in lot if look in looks]) >= 3 for lot in sights.lots])


def seen_threes(sights, looks):
    """All threes of these looks that lie in some seen lot, ascending, a list."""
    found = {}
    for lot in sights.lots:
        for triple in triples_of([look for look in lot if look in looks]):
            found[triple] = True
    return sorted(list(found))


def told_leans(tilts):
    """The unlike leans that seen threes tell each spot of the piece, a dict of lists by spots."""
    found = {}
    for triple in seen_threes(tilts.sights, tilts.looks):
        for spot, lean in leans_of_three(tilts, triple):
            told = found.setdefault(spot, [])
            if lean not in told:
                told.append(lean)
    return found


def leans_of_three(tilts, triple):
    """Pairs of a spot and a lean that the seen three tells it, a list."""
    sights = tilts.sights
    found = []
    for row, entry in zip(all_rows(triple, sights.sizes), sights.table(triple).entries):
        x, y, z = list(zip(triple, row))
        links = [tilts.told(y, z), tilts.told(x, z), tilts.told(x, y)]
        shares = product_of([sights.single(spot) for spot in (x, y, z)])
        # The entry is the product of the singles times 1, the three links and the twist.
        twist = minus(over(entry, shares), total([1] + links))
        found = found + [(spot, over(twist, link)) for spot, link in zip((x, y, z), links) if link != (0, 1)]
    return found


def lean_reason(tilts, told):
    """The reason "lean" against told leans, a dict of lists by spots; None if leans agree."""
    spots = sorted(list(told))
    for spot in spots:
        if len(told[spot]) > 1:
            return ("lean", spot, spot)
    first = leading_spot(tilts, told)
    for spot in spots:
        if times(told[spot][0], tilts.reach(first)) != times(told[first][0], tilts.reach(spot)):
            return ("lean", min(spot, first), max(spot, first))
    return None


def leading_spot(tilts, told):
    """The least spot with a told lean and a reach that is not 0."""
    return min([spot for spot in told if tilts.reach(spot) != (0, 1)])


def slope_of(tilts, told):
    """The number that, times the reach of a spot, is its told lean, if leans agree."""
    first = leading_spot(tilts, told)
    return over(told[first][0], tilts.reach(first))


def with_spot(pair, single, reach, tilts, slope):
    """The two numbers of a row of spots, with one spot more."""
    plain, more = pair
    risen = times(more, reach)
    return (times(single, plus(plain, over(risen, tilts.reach(tilts.base)))),
            times(single, total([more, times(plain, reach), times(risen, slope)])))


def as_made(tilts, slope, asking):
    """The as made entries of an asking, its looks outside the piece dumb, in the order of rows; a list."""
    # With all leans slope times the reach, the part of k spots is c_k times the product of their reaches, where
    # c_0 is 1, c_1 is 0 and c_(k+1) is slope c_k + c_(k-1) / told(x0,x0). So the sum of the parts is a polynomial in
    # z, c_k standing for the power k of z, and z z may give way to slope z + 1 / told(x0,x0): two numbers are enough.
    pairs = [((1, 1), (0, 1))]
    for look in asking:
        spots = look_spots(look, tilts.sights.sizes)
        moves = [(tilts.sights.single(spot), tilts.reach(spot) if look in tilts.looks else (0, 1)) for spot in spots]
        pairs = [with_spot(pair, single, reach, tilts, slope) for pair in pairs for single, reach in moves]
    return [plain for plain, more in pairs]


def row_reason(word, lot, sizes, entries, wanted):
    """The reason of this word with the lot and its first row at which the entries are not as wanted; None if none."""
    for row, entry, other in zip(all_rows(lot, sizes), entries, wanted):
        if entry != other:
            return (word, lot, row)
    return None


def lot_reason(tilts, slope):
    """The reason "lot" of the first seen lot of the piece that is not as made; None if there is none."""
    sights = tilts.sights
    for lot in sights.lots:
        if any([look in tilts.looks for look in lot]):
            entries = sights.table(lot).entries
            found = row_reason("lot", lot, sights.sizes, entries, as_made(tilts, slope, lot))
            if found is not None:
                return found
    return None
