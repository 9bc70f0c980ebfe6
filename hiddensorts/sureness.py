"""Sure looks, and spots with a chance 0, in the fair worlds of a piece."""

from hiddensorts.links import look_spots
from hiddensorts.making import zeros
from hiddensorts.ratios import negative
from hiddensorts.tilts import piece_look_of, piece_spots


def are_all_ends(tilts, look):
    """Whether each tilt of a look is the greatest or the least one of its side."""
    heights = tilts.heights()
    high, low = heights[:2] if look in tilts.sides[0] else heights[2:]
    found = [tilts.reach(spot) for spot in look_spots(look, tilts.sights.sizes)]
    return all([tilt in (high, negative(low)) for tilt in found])


def part_or_like(tilts, x, y):
    """Whether two spots of a look of a ringed piece are never met in one sort, or are as one answer."""
    link = tilts.told(x, y)
    return link == (-1, 1) or tilts.told(x, x) == link == tilts.told(y, y)


def may_be_sure(frame, look):
    """Whether the look is sure in some fair real world of the piece."""
    tilts = frame.tilts
    chosen = piece_look_of(look, tilts)
    if not tilts.ringed:
        return are_all_ends(tilts, chosen)
    spots = look_spots(chosen, tilts.sights.sizes)
    return all([part_or_like(tilts, x, y) for x in spots for y in spots])


def must_be_sure(frame, look):
    """Whether the look is sure in each fair real world of the piece."""
    return may_be_sure(frame, look) and frame.only_one() is not None


def border_spots(frame):
    """The spots of the piece, ascending, with the chance 0 in some sort of some world of end_worlds; a list."""
    met = [spot for world in frame.end_worlds() for which, spot in zeros(world)]
    return [spot for spot in piece_spots(frame.tilts) if spot in met]
