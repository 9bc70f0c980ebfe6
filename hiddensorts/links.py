"""The links of seen pairs, and the link that a walk tells by them."""

from hiddensorts.lots import all_rows
from hiddensorts.ratios import minus, over, times


def look_spots(look, sizes):
    """The spots of a look, ascending, a list."""
    return [(look, answer) for answer in range(sizes[look])]


def links_of(sights, pairs):
    """The links of the spots of some seen pairs, a dict by two spots, in either order."""
    found = {}
    for look, other in pairs:
        entries = sights.table((look, other)).entries
        rows = all_rows((look, other), sights.sizes)
        for (answer, far), entry in zip(rows, entries):
            shares = times(sights.singles[look][answer], sights.singles[other][far])
            link = minus(over(entry, shares), 1)
            found[((look, answer), (other, far))] = link
            found[((other, far), (look, answer))] = link
    return found


def first_linked(links, sizes, look, other):
    """The least spot of a look with a link not 0 with some spot of a linked one, and the least such spot there."""
    for spot in look_spots(look, sizes):
        for far in look_spots(other, sizes):
            if links[(spot, far)] != (0, 1):
                return (spot, far)
    return None


def told_along(links, sizes, walk, x, y):
    """The link that an odd walk tells for a spot of its first look and one of its last."""
    told = (1, 1)
    spot = x
    for place in range(1, len(walk) - 1, 2):
        near, far = first_linked(links, sizes, walk[place], walk[place + 1])
        told = times(told, over(links[(spot, near)], links[(near, far)]))
        spot = far
    return times(told, links[(spot, y)])
