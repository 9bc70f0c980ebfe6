"""Kinds of pairs, checked pairs, least pairs."""

from hiddensorts.errors import BadLook, NotLinked
from hiddensorts.sights import Sights
from hiddensorts.webs import EVEN, ODD, Web, look_of, steps_by, walks_from


def two_looks_of(look, other, sights):
    """Two different looks of the sights, ascending, a tuple."""
    pair = sorted([look_of(look, sights), look_of(other, sights)])
    if pair[0] == pair[1]:
        raise BadLook()
    return tuple(pair)


def kind_by_steps(steps, pair):
    """The kind of two looks, no look being still, by the looks that each look is linked with."""
    ends = [walks_from(look, steps) for look in pair]
    if (pair[1], ODD) in ends[0]:
        return "told"
    if (pair[1], EVEN) in ends[0]:
        return "side"
    if not all([steps[look] for look in pair]):
        return "loner"
    ringed = [(look, ODD) in found for look, found in zip(pair, ends)]
    return "sign" if all(ringed) else "join"


def kind_in(web, pair):
    """The kind of two different looks."""
    if pair[0] in web.still or pair[1] in web.still:
        return "told"
    return kind_by_steps([web.steps(look) for look in range(len(web.sights.sizes))], pair)


def pair_kind(web, look, other):
    """The kind of the two looks, a text."""
    return kind_in(web, two_looks_of(look, other, web.sights))


def sights_of_pairs(sights, pairs):
    """Sights with these seen pairs alone."""
    return Sights(sights.singles, seen=[(pair, sights.table(pair).entries) for pair in pairs])


def check_kind(sights, look, other):
    """The kind of a linked pair in the web of all seen pairs but this one."""
    pair = two_looks_of(look, other, sights)
    if pair not in sights.linked():
        raise NotLinked()
    others = [seen for seen in sights.pairs() if seen != pair]
    return kind_in(Web(sights_of_pairs(sights, others)), pair)


def least_pairs(sights):
    """The pairs that are taken when the linked pairs are gone through in ascending order, a tuple."""
    taken = []
    for pair in sights.linked():
        if kind_by_steps(steps_by(taken, len(sights.sizes)), pair) not in ("told", "sign"):
            taken.append(pair)
    return tuple(taken)
