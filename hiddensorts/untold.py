"""The ends of what pairs leave open: factors, links within a side, twists; shares."""

from hiddensorts.bounds import ends_of
from hiddensorts.errors import BadSpot, NotBehind, NotRinged, OneSide, OtherSide, Outside
from hiddensorts.frames import fair_worlds_of, lies_within
from hiddensorts.giving import lean
from hiddensorts.lots import all_rows
from hiddensorts.ratios import as_ratio, minus, over, times
from hiddensorts.tilts import judge_sided, linked_table, piece_look_of, piece_spot_of


def judge_ringed(frame):
    """Refuse a sided piece."""
    if not frame.ringed:
        raise NotRinged()


def side_of(tilts, look):
    """The side of a look of the piece: 0 for A (of a ringed piece for all looks), 1 for B."""
    return 0 if look in tilts.sides[0] else 1


def factor_ends(oblong):
    """The ends of the factor."""
    judge_sided(oblong)
    return (times(oblong.s_low, oblong.t_low), times(oblong.s_high, oblong.t_high))


def link_at(tilts, x, y, factor):
    """The link of two spots of one side in the worlds with this factor."""
    product = times(tilts.reach(x), tilts.reach(y))
    return times(product, factor) if side_of(tilts, x[0]) == 0 else over(product, factor)


def link_ends(frame, x, y):
    """The ends of the link of two spots of the piece; a told link twice."""
    spot = piece_spot_of(x, frame.tilts)
    other = piece_spot_of(y, frame.tilts)
    told = frame.tilts.told(spot, other)
    if told is not None:
        return (told, told)
    return ends_of([link_at(frame.tilts, spot, other, factor) for factor in factor_ends(frame)])


def pair_at(oblong, look, other, factor):
    """The Table of two looks of one side, or of one look asked again, in the worlds with this factor."""
    judge_sided(oblong)
    tilts = oblong.tilts
    pair = tuple(sorted([piece_look_of(look, tilts), piece_look_of(other, tilts)]))
    number = as_ratio(factor)
    if side_of(tilts, pair[0]) != side_of(tilts, pair[1]):
        raise OtherSide()
    low, high = factor_ends(oblong)
    if not lies_within(number, low, high):
        raise Outside()
    rows = all_rows(pair, tilts.sights.sizes)
    links = [link_at(tilts, (pair[0], answer), (pair[1], far), number) for answer, far in rows]
    return linked_table(tilts.sights, pair, links)


def facing_last(tilts, spots):
    """Three spots that are not all of one side, in an order in which the last two face each other, a tuple."""
    x, y, z = spots
    if tilts.ringed or side_of(tilts, y[0]) != side_of(tilts, z[0]):
        return (x, y, z)
    if side_of(tilts, x[0]) == side_of(tilts, y[0]):
        raise OneSide()
    return (y, x, z)


def twist_ends(frame, x, y, z):
    """The ends of the twist of spots of three looks of the piece, not all of one side of a sided one."""
    spots = [piece_spot_of(spot, frame.tilts) for spot in (x, y, z)]
    if len({spot[0] for spot in spots}) < 3:
        raise BadSpot()
    alone, near, far = facing_last(frame.tilts, spots)
    link = frame.tilts.told(near, far)
    return ends_of([times(lean(world, alone), link) for world in (frame.first_end(), frame.second_end())])


def share_of(stretch, world):
    """The share of a fair world of a ringed piece; None if both ends are the same world."""
    judge_ringed(stretch)
    if not fair_worlds_of(stretch, world):
        raise NotBehind()
    if stretch.low == stretch.high:
        return None
    base = stretch.tilts.base
    start = lean(stretch.second_end(), base)
    return over(minus(lean(world, base), start), minus(lean(stretch.first_end(), base), start))
