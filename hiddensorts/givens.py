"""What told leans tell given an answer, across two pieces, and of lots that were never seen."""

from hiddensorts.bending import turned_spots
from hiddensorts.errors import NeverMet, Turned, Unlike
from hiddensorts.opening import opened
from hiddensorts.ratios import minus, over, times
from hiddensorts.sights import Sights
from hiddensorts.tilts import piece_spot_of, piece_spots


def never_met_with(leans, spot):
    """The least spot of another look of the piece that is never met with the spot; None if there is none."""
    for other in piece_spots(leans.tilts):
        if other[0] != spot[0] and leans.link(spot, other) == (-1, 1):
            return other
    return None


def given_sights(leans, spot):
    """The Sights of the other looks of the piece among the things that answer the spot."""
    chosen = piece_spot_of(spot, leans.tilts)
    turned = turned_spots(leans)
    if turned:
        raise Turned(turned[0])
    never = never_met_with(leans, chosen)
    if never is not None:
        raise NeverMet(never)
    table = opened(leans, leans.looks).given(chosen)
    singles = [table.left_to((look,)).entries for look in table.asking]
    return Sights(singles, seen=[(list(range(len(singles))), table.entries)])


def across_link(leans, other, x, y):
    """The link of a spot of one piece and one of another piece; None if the balance is 1/4."""
    spot = piece_spot_of(x, leans.tilts)
    far = piece_spot_of(y, other.tilts)
    balance = leans.balance()
    if balance != other.balance():
        raise Unlike()
    if balance == (1, 4):
        return None
    return over(times(leans.lean(spot), other.lean(far)), minus(over(1, balance), 4))


def lots_within(looks):
    """All lots of these looks, an ascending tuple, the empty one too; a list."""
    found = [()]
    for look in looks:
        found = found + [lot + (look,) for lot in found]
    return found


def shown_lots(leans):
    """The lots of at least two looks of the piece that lie in no seen lot, shorter ones first, a list."""
    unseen = [lot for lot in lots_within(leans.looks) if not leans.sights.sees(lot)]
    return [lot for many, lot in sorted([(len(lot), lot) for lot in unseen])]
