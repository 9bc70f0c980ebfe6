"""What a pair that was not seen can show."""

from hiddensorts.checks import kind_in, two_looks_of
from hiddensorts.cutting import join_ends
from hiddensorts.errors import Disagrees, HasThree, IsSeen, ManyPieces, NotFair
from hiddensorts.frames import frame_of
from hiddensorts.meeting import cross_signs
from hiddensorts.ratios import over
from hiddensorts.standing import stand
from hiddensorts.threes import holds_three
from hiddensorts.untold import factor_ends, side_of
from hiddensorts.webs import Web


def judge_open(sights, web, pair):
    """Refuse a pair that was seen, and sights that are not fair or have a seen lot with three looks of a piece."""
    if sights.sees(pair):
        raise IsSeen()
    if stand(sights)[0] != "fair":
        raise NotFair()
    if any([holds_three(sights, piece) for piece in web.pieces]):
        raise HasThree()


def frames_at(sights, web, pair):
    """The frames of the pieces of two looks, a list."""
    return [frame_of(sights, web.piece_of(look)) for look in pair]


def side_answer(sights, web, pair):
    """What two looks of one side of a piece can show."""
    frame = frames_at(sights, web, pair)[0]
    low, high = factor_ends(frame)
    if side_of(frame.tilts, pair[0]) == 0:
        return ("side", low, high)
    return ("side", over(1, high), over(1, low))


def join_answer(sights, web, pair):
    """What two looks of two pieces, not both ringed, can show."""
    frame, other = frames_at(sights, web, pair)
    if frame.ringed or other.ringed:
        return ("free",)
    side = side_of(frame.tilts, pair[0])
    other_side = side_of(other.tilts, pair[1])
    return ("join", join_ends(frame, side, other, other_side, sign=1),
            join_ends(frame, side, other, other_side, sign=-1))


def can_show(sights, look, other):
    """What the two looks, not seen together, can show so that fair worlds still stand behind the sights; a tuple."""
    pair = two_looks_of(look, other, sights)
    web = Web(sights)
    judge_open(sights, web, pair)
    kind = kind_in(web, pair)
    if kind == "told":
        return ("one",)
    if kind == "loner":
        return ("free",)
    if len(web.pieces) > (1 if kind == "side" else 2):
        raise ManyPieces()
    if kind == "side":
        return side_answer(sights, web, pair)
    if kind == "join":
        return join_answer(sights, web, pair)
    frame, far = frames_at(sights, web, pair)
    return ("sign", cross_signs(frame, far))


def shows_well(sights, lot, entries):
    """Whether the sights with this seen lot more are fair."""
    try:
        more = sights.adding(lot, entries)
    except Disagrees:
        return False
    return stand(more)[0] == "fair"
