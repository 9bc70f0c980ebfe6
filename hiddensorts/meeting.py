"""Frames beside each other: balances that meet, signs across two pieces."""

from hiddensorts.agreeing import pairs_agree
from hiddensorts.barring import unseen_bar
from hiddensorts.bounds import chance_ends
from hiddensorts.frames import frame_of, lies_within
from hiddensorts.ratios import below, greatest, least, minus, times
from hiddensorts.tilts import piece_spot_of
from hiddensorts.untold import judge_ringed
from hiddensorts.webs import Web


def balance_by(chance):
    """The balance of two sorts, one of which has this chance."""
    return times(chance, minus(1, chance))


def balance_ends(frame):
    """The ends of the balance."""
    low, high = chance_ends(frame)
    found = [balance_by(low), balance_by(high)]
    top = (1, 4) if lies_within((1, 2), low, high) else greatest(found)
    return (least(found), top)


def share_number(ranges):
    """Whether some number lies between the two numbers of each pair of a list, or is one of them."""
    if not ranges:
        return True
    return not below(least([high for low, high in ranges]), greatest([low for low, high in ranges]))


def meet(frame, other):
    """Whether the two frames meet."""
    return meet_all([frame, other])


def meet_all(frames):
    """Whether some number lies between the ends of the balance of each frame of a list."""
    return share_number([balance_ends(frame) for frame in frames])


def cross_signs(frame, other):
    """The signs that hold for two frames, a tuple."""
    chances = chance_ends(frame)
    low, high = chance_ends(other)
    found = []
    if share_number([chances, (low, high)]):
        found.append(1)
    if share_number([chances, (minus(1, high), minus(1, low))]):
        found.append(-1)
    return tuple(found)


def cross_square(frame, other, x, y):
    """told(x, x) told(y, y), for a spot x of the one ringed piece and y of the other."""
    judge_ringed(frame)
    judge_ringed(other)
    spot = piece_spot_of(x, frame.tilts)
    far = piece_spot_of(y, other.tilts)
    return times(frame.tilts.told(spot, spot), other.tilts.told(far, far))


def stands_together(sights):
    """Whether fair real worlds stand behind all seen pairs."""
    if not pairs_agree(sights) or unseen_bar(sights) is not None:
        return False
    return meet_all([frame_of(sights, number) for number in range(len(Web(sights).pieces))])
