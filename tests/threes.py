"""What the tests of leans share: parts by their definition, sights with leans, reasons against leans."""

import itertools
from fractions import Fraction

from hiddensorts.sights import Sights
from hiddensorts.webs import Web
from tests.oracles import link, single
from tests.tools import fraction, ratio, rows


def step_numbers(skew, share, many):
    """C_0, C_1, .. by point 20, skew for q - p and share for p q."""
    found = [Fraction(1), Fraction(0)]
    while len(found) <= many:
        found.append(skew * found[-1] + share * found[-2])
    return found


def leaned_entries(singles, vectors, share, skew, lot):
    """The entries of a lot whose parts of k spots are C_k times the product of their numbers in the vectors."""
    steps = step_numbers(Fraction(skew), Fraction(share), len(lot))
    found = []
    for row in itertools.product(*[range(len(singles[look])) for look in lot]):
        entry = Fraction(0)
        for many in range(len(lot) + 1):
            for chosen in itertools.combinations(list(zip(lot, row)), many):
                product = steps[many]
                for look, answer in chosen:
                    product *= vectors[look][answer]
                entry += product
        for look, answer in zip(lot, row):
            entry *= fraction(singles[look][answer])
        found.append(ratio(entry))
    return found


def leaned_sights(singles, vectors, share, skew, lots):
    """Sights of a real world of two sorts: links share * v * v, leans skew * v, v the numbers of the vectors."""
    return Sights(singles, seen=[(lot, leaned_entries(singles, vectors, share, skew, lot)) for lot in lots])


def part_by_definition(leans, spots):
    """Point 77, word by word."""
    if len(spots) < 2:
        return Fraction(1 - len(spots))
    *before, x = spots
    *rest, y = before
    own = fraction(leans.lean(x)) * part_by_definition(leans, before)
    return own + fraction(leans.tilts.told(y, x)) * part_by_definition(leans, rest)


def entry_by_definition(leans, spots):
    """The entry that is as made at the row of these spots."""
    found = sum(part_by_definition(leans, list(chosen)) for many in range(len(spots) + 1)
                for chosen in itertools.combinations(spots, many))
    for spot in spots:
        found *= single(leans.sights, spot)
    return found


def told_by_threes(sights, piece):
    """The leans that seen threes tell each spot, a dict of sets."""
    found = {}
    for lot in sights.lots:
        for looks in itertools.combinations([look for look in lot if look in piece], 3):
            table = sights.table(looks)
            for row in rows(looks, sights.sizes):
                spots = list(zip(looks, row))
                links = [link(sights, y, z) for y, z in itertools.combinations(spots, 2)]
                shares = Fraction(1)
                for spot in spots:
                    shares *= single(sights, spot)
                twist = fraction(table.at(row)) / shares - 1 - sum(links)
                for spot, (y, z) in zip(spots[::-1], itertools.combinations(spots, 2)):
                    if link(sights, y, z) != 0:
                        found.setdefault(spot, set()).add(twist / link(sights, y, z))
    return found


def holds_lean_reason(sights, number, tilts, why):
    """Whether a reason "lean" or "lot" holds for a piece whose pairs agree."""
    piece = Web(sights).pieces[number]
    told = told_by_threes(sights, piece)
    reach = {spot: fraction(tilts.told(tilts.base, spot)) for spot in told}
    if why[0] == "lean":
        _, x, y = why
        if x == y:
            return len(told[x]) > 1
        b, c = [list(told[spot]) for spot in (x, y)]
        return x < y and len(b) == len(c) == 1 and b[0] * reach[y] != c[0] * reach[x]
    _, lot, row = why
    if lot not in sights.lots or not set(lot) & set(piece) or any(len(leans) > 1 for leans in told.values()):
        return False
    first = [x for x in told if reach[x] != 0][0]
    slope = list(told[first])[0] / reach[first]
    if any(list(leans)[0] != slope * reach[x] for x, leans in told.items()):
        return False
    wanted = as_made_by_hand(sights, tilts, slope, lot)
    unlike = [at for at, entry in zip(rows(lot, sights.sizes), sights.table(lot).entries)
              if fraction(entry) != wanted[at]]
    return bool(unlike) and unlike[0] == row


def as_made_by_hand(sights, tilts, slope, lot):
    """The entries of a seen lot, by its rows, if it were as made."""
    own = fraction(tilts.told(tilts.base, tilts.base))
    vectors = {look: [fraction(tilts.told(tilts.base, (look, a))) if look in tilts.looks else Fraction(0)
                      for a in range(size)] for look, size in enumerate(sights.sizes)}
    entries = leaned_entries(sights.singles, vectors, 1 / own, slope, lot)
    return {row: fraction(entry) for row, entry in zip(rows(lot, sights.sizes), entries)}
