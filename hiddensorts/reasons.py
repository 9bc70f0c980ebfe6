"""Reasons why the pairs of a piece do not agree."""

from hiddensorts.links import first_linked, links_of, look_spots, told_along
from hiddensorts.ratios import sign_of, times
from hiddensorts.webs import piece_at


def piece_links(web, number):
    """The links of the linked pairs of a piece, a dict by two spots, in either order."""
    pairs = [(look, near) for look in piece_at(web, number) for near in web.steps(look) if look < near]
    return links_of(web.sights, pairs)


def base_of(web, number, links):
    """The base spot of a piece."""
    look = piece_at(web, number)[0]
    return min([first_linked(links, web.sights.sizes, look, near)[0] for near in web.steps(look)])


def pair_rank_reason(links, sizes, look, other):
    """The reason "rank" of a linked pair; None if there is none."""
    near, far = first_linked(links, sizes, look, other)
    for x in look_spots(look, sizes):
        for y in look_spots(other, sizes):
            if times(links[(x, y)], links[(near, far)]) != times(links[(x, far)], links[(near, y)]):
                return ("rank", x, y, near, far)
    return None


def rank_reason(web, number, links):
    """The reason "rank" of the first linked pair of a piece that has one; None if there is none."""
    for look in piece_at(web, number):
        for near in web.steps(look):
            found = pair_rank_reason(links, web.sights.sizes, look, near)
            if found is not None:
                return found
    return None


def apart_reason(web, looks):
    """The reason "apart" of the first seen pair of these looks that is not linked; None if there is none."""
    for look, other in web.sights.pairs():
        if look in looks and other in looks and other not in web.steps(look):
            return ("apart", look, other)
    return None


def unlike_walks(links, sizes, x, walk, other):
    """The reason "walks" of two odd walks from the look of x to one look; None if they tell its spots the same."""
    for y in look_spots(walk[-1], sizes):
        if told_along(links, sizes, walk, x, y) != told_along(links, sizes, other, x, y):
            return ("walks", x, y, walk, other)
    return None


def turn_reason(web, number, links):
    """The reason "walks" of a step and of the same step gone on and back; None if there is none."""
    sizes = web.sights.sizes
    for look in piece_at(web, number):
        first = web.steps(look)[0]
        x = first_linked(links, sizes, first, look)[0]
        for near in web.steps(look)[1:]:
            found = unlike_walks(links, sizes, x, (first, look), (first, look, near, look))
            if found is not None:
                return found
    return None


def way_reason(web, number, links, base):
    """The reason "walks" of two odd walks from the base spot's look; None if there is none."""
    for look in piece_at(web, number):
        there = web.walk(base[0], look, False)
        if there is None:
            continue
        for near in web.steps(look):
            walk = web.walk(base[0], near, True)
            found = unlike_walks(links, web.sights.sizes, base, walk, there + (near,))
            if found is not None:
                return found
    return None


def walk_reason(web, number, links):
    """The reason "walks" or "ring" of a piece without a reason "rank"; None if there is none."""
    # Without such a turn, the links of a look with each near look are the same numbers for its spots, times a factor.
    # Then what a walk tells hangs on these factors alone, and least walks with one step more find all unlike ones.
    found = turn_reason(web, number, links)
    if found is not None:
        return found
    base = base_of(web, number, links)
    found = way_reason(web, number, links, base)
    if found is not None:
        return found
    # All links told of a spot and itself have one sign, as told(x,x) told(y,y) is the square of told(x,y).
    ring = web.walk(base[0], base[0], True)
    if ring is not None and sign_of(told_along(links, web.sights.sizes, ring, base, base)) < 0:
        return ("ring", base, ring)
    return None


def piece_reason(web, number, links):
    """A reason that holds for a piece; None if its pairs agree."""
    found = rank_reason(web, number, links)
    if found is None:
        found = apart_reason(web, piece_at(web, number))
    if found is None:
        found = walk_reason(web, number, links)
    return found
