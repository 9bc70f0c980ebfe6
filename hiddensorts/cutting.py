"""One pair more: within a side of a sided piece, or between two sided pieces."""

from hiddensorts.errors import BadNumber, Outside
from hiddensorts.frames import lies_within
from hiddensorts.loose import sided_world
from hiddensorts.lots import is_below
from hiddensorts.ratios import as_ratio, below, greatest, is_int, least, over, times
from hiddensorts.tilts import judge_sided
from hiddensorts.untold import factor_ends


def end_places(oblong, factor):
    """The pairs (s, t) of this factor with the greatest and the least t, a list; None if no fair world has it."""
    low, high = factor_ends(oblong)
    if not lies_within(factor, low, high):
        return None
    # Where s t stays as it is, the chance t / (s + t) of sort 0 grows with t.
    most = least([oblong.t_high, over(factor, oblong.s_low)])
    fewest = greatest([oblong.t_low, over(factor, oblong.s_high)])
    return [(over(factor, t), t) for t in (most, fewest)]


def worlds_at(oblong, factor):
    """The Worlds of this factor with the greatest and the least chance of sort 0, a tuple; None if there are none."""
    places = end_places(oblong, factor)
    if places is None:
        return None
    return tuple([sided_world(oblong.tilts, s, t) for s, t in places])


def cut_ends(oblong, factor):
    """The ends of the chance over the fair worlds of the piece with this factor; None if there are none."""
    judge_sided(oblong)
    worlds = worlds_at(oblong, as_ratio(factor))
    if worlds is None:
        return None
    return (worlds[1].chances[0], worlds[0].chances[0])


def cut_worlds(oblong, factor):
    """The world of this factor with the greatest chance of sort 0, then the one with the least; a tuple."""
    judge_sided(oblong)
    worlds = worlds_at(oblong, as_ratio(factor))
    if worlds is None:
        raise Outside()
    return worlds


def sided_heights(frame, side):
    """The pairs (HIGH, LOW) of the chosen side of a sided piece, 0 for A and 1 for B, and of the other one; a list."""
    judge_sided(frame)
    if not is_below(side, 2):
        raise BadNumber()
    heights = frame.tilts.heights()
    found = [heights[:2], heights[2:]]
    return [found[side], found[1 - side]]


def greater_product(one, two):
    """The greater of the product of two firsts and that of two seconds."""
    return greatest([times(one[0], two[0]), times(one[1], two[1])])


def join_ends(oblong, side, other, other_side, *, sign):
    """The range of v (of -v for the sign -1) that leaves a frame to two sided pieces that are joined; None if empty."""
    chosen, rest = sided_heights(oblong, side)
    far, far_rest = sided_heights(other, other_side)
    if not is_int(sign) or sign not in (1, -1):
        raise BadNumber()
    if sign == 1:
        # The greatest tilts must go with the least ones: for v above 0 links are least where the signs are unlike.
        far, far_rest = far[::-1], far_rest[::-1]
    low = greater_product(far_rest, rest)
    high = over(1, greater_product(far, chosen))
    return None if below(high, low) else (low, high)
