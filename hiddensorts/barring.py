"""The told links that bar fair worlds."""

from hiddensorts.agreeing import reason
from hiddensorts.errors import Clash
from hiddensorts.ratios import below
from hiddensorts.tilts import Tilts, piece_spots
from hiddensorts.webs import Web


def told_pairs(tilts):
    """All pairs (x, y) of spots of the piece, x <= y, with a told link, ascending, each with this link; a list."""
    spots = piece_spots(tilts)
    found = [((x, y), tilts.told(x, y)) for place, x in enumerate(spots) for y in spots[place:]]
    return [(pair, link) for pair, link in found if link is not None]


def bars_of(tilts):
    """All pairs of spots of the piece whose told link is below -1, ascending, a list."""
    return [pair for pair, link in told_pairs(tilts) if below(link, -1)]


def barring(sights, number):
    """All pairs of spots of a piece whose told link is below -1, ascending, a list."""
    return bars_of(Tilts(sights, number))


def touching(sights, number):
    """All pairs of spots of a piece whose told link is -1, ascending, a list."""
    return [pair for pair, link in told_pairs(Tilts(sights, number)) if link == (-1, 1)]


def unseen_bar(sights):
    """The first pair that barring returns for the first piece that has one; None if there is none."""
    why = reason(sights)
    if why is not None:
        raise Clash(why)
    for number in range(len(Web(sights).pieces)):
        bars = barring(sights, number)
        if bars:
            return bars[0]
    return None
