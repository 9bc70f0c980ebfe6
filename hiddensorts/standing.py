"""What stands behind sights: nothing, loose worlds alone, or fair ones."""

from hiddensorts.agreeing import reason
from hiddensorts.bending import turned_spots
from hiddensorts.errors import Clash, NoFair, Turned
from hiddensorts.frames import frame_of
from hiddensorts.leans import Leans, has_three
from hiddensorts.lots import all_rows, row_index
from hiddensorts.meeting import balance_ends, share_number
from hiddensorts.ratios import product_of
from hiddensorts.tables import at_places
from hiddensorts.threes import holds_three, row_reason
from hiddensorts.webs import Web


def balance_range(sights, number):
    """The ends of the balance over the fair real worlds of the piece that make its lots, a tuple."""
    if not has_three(sights, number):
        return balance_ends(frame_of(sights, number))
    leans = Leans(sights, number)
    turned = turned_spots(leans)
    if turned:
        raise Turned(turned[0])
    return (leans.balance(), leans.balance())


def piece_part(sights, lot, joined):
    """The entries of a lot, in order: those of its looks that are joined times the singles of the others; a list."""
    inner = tuple([look for look in lot if look in joined])
    places = [place for place, look in enumerate(lot) if look in joined]
    # The empty lot has one row, and its entry is 1.
    entries = sights.table(inner).entries if inner else ((1, 1),)
    found = []
    for row in all_rows(lot, sights.sizes):
        shares = [sights.single((look, answer)) for look, answer in zip(lot, row) if look not in joined]
        shares.append(entries[row_index(at_places(row, places), inner, sights.sizes)])
        found.append(product_of(shares))
    return found


def loner_reason(sights, joined):
    """The reason "loner" of the first seen lot in which loners are not independent; None if there is none."""
    for lot in sights.lots:
        wanted = piece_part(sights, lot, joined)
        found = row_reason("loner", lot, sights.sizes, sights.table(lot).entries, wanted)
        if found is not None:
            return found
    return None


def unlike_balances(leans):
    """The reason "balances" of two pieces with unlike told balances; None if there is none."""
    for told in leans[1:]:
        if told.balance() != leans[0].balance():
            return ("balances", leans[0].number, told.number)
    return None


def none_reason(sights, web):
    """A reason why no real world of two sorts stands behind the sights; None if one does."""
    why = reason(sights)
    if why is None:
        why = loner_reason(sights, [look for piece in web.pieces for look in piece])
    if why is not None:
        return why
    leans = []
    for number, piece in enumerate(web.pieces):
        if holds_three(sights, piece):
            try:
                leans.append(Leans(sights, number))
            except Clash as error:
                return error.reason
    return unlike_balances(leans)


def range_reason(ranges):
    """The reason "ranges" of the first two pieces whose ranges have no number in common; None if there is none."""
    for other in range(len(ranges)):
        for number in range(other):
            if not share_number([ranges[number], ranges[other]]):
                return ("ranges", number, other)
    return None


def loose_reason(sights, web):
    """A reason why no fair real world stands behind sights behind which a real world stands; or None."""
    ranges = []
    for number in range(len(web.pieces)):
        try:
            ranges.append(balance_range(sights, number))
        except NoFair as bar:
            return ("below", bar.x, bar.y)
        except Turned as turn:
            return ("bend", turn.x)
    return range_reason(ranges)


def stand(sights):
    """A tuple of the word "none", "loose" or "fair" and of a reason, None for "fair"."""
    web = Web(sights)
    why = none_reason(sights, web)
    if why is not None:
        return ("none", why)
    why = loose_reason(sights, web)
    return ("fair", None) if why is None else ("loose", why)
