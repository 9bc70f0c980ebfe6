"""Whether the pairs of sights agree."""

from hiddensorts.reasons import apart_reason, piece_links, rank_reason, walk_reason
from hiddensorts.webs import Web


def reason(sights):
    """A reason that holds against the pairs of the sights; None if they agree."""
    web = Web(sights)
    links = [piece_links(web, number) for number in range(len(web.pieces))]
    found = [rank_reason(web, number, told) for number, told in enumerate(links)]
    found.append(apart_reason(web, [look for piece in web.pieces for look in piece]))
    for why in found:
        if why is not None:
            return why
    for number, told in enumerate(links):
        why = walk_reason(web, number, told)
        if why is not None:
            return why
    return None


def pairs_agree(sights):
    """Whether the pairs of the sights agree."""
    return reason(sights) is None
