"""Drawings across the sides of a piece, and looks that draw a whole side."""

from hiddensorts.checks import two_looks_of
from hiddensorts.curves import curve_of
from hiddensorts.errors import BadNumber, OtherSide
from hiddensorts.lots import is_below
from hiddensorts.ratios import below, over
from hiddensorts.tilts import judge_look
from hiddensorts.untold import factor_ends, side_of


def judge_looks(tilts, look, other):
    """Refuse two looks that are not two different ones of the piece."""
    for chosen in two_looks_of(look, other, tilts.sights):
        judge_look(chosen, tilts)


def least_reach(tilts, look, other):
    """The least factor with which the line of look is nowhere below that of other."""
    return curve_of(tilts, look).least_factor(curve_of(tilts, other))


def across_factor(tilts, look, other):
    """The least factor with which the line of look reaches that of other, a look of the other side."""
    judge_looks(tilts, look, other)
    if side_of(tilts, look) == side_of(tilts, other):
        raise OtherSide()
    return least_reach(tilts, look, other)


def drawn_where(frame, look, other):
    """In which fair real worlds of the piece other is drawn from look: "all", "some" or "none"."""
    tilts = frame.tilts
    judge_looks(tilts, look, other)
    if side_of(tilts, look) == side_of(tilts, other):
        return "all" if curve_of(tilts, other).is_below(curve_of(tilts, look)) else "none"
    low, high = factor_ends(frame)
    factor = least_reach(tilts, look, other)
    if side_of(tilts, look) == 1:
        # From side B to side A the splits fall as the factor rises.
        low, high = over(1, high), over(1, low)
    if not below(low, factor):
        return "all"
    return "none" if below(high, factor) else "some"


def one_teller(tilts, side):
    """The least look of the side from which each look of the side is drawn; None if there is none."""
    if not is_below(side, 1 if tilts.ringed else 2):
        raise BadNumber()
    curves = [(look, curve_of(tilts, look)) for look in tilts.sides[side]]
    for look, curve in curves:
        if all([drawn.is_below(curve) for other, drawn in curves]):
            return look
    return None
