"""What odd walks tell."""

from hiddensorts.errors import BadWalk
from hiddensorts.lots import is_below, spot_in
from hiddensorts.ratios import is_list, over, times


def walk_of(value, sights):
    """The odd walk, a tuple."""
    if not is_list(value) or len(value) % 2 == 1 or len(value) == 0:
        raise BadWalk(-1)
    linked = sights.linked()
    for place, look in enumerate(value):
        if not is_below(look, len(sights.sizes)):
            raise BadWalk(place)
        if place > 0 and tuple(sorted([value[place - 1], look])) not in linked:
            raise BadWalk(place)
    return tuple(value)


def look_spots(look, sizes):
    """The spots of a look, ascending, a list."""
    return [(look, answer) for answer in range(sizes[look])]


def first_linked(sights, look, other):
    """The least spot of a look with a link not 0 with some spot of a linked one, and the least such spot there."""
    found = [(spot, far) for spot in look_spots(look, sights.sizes) for far in look_spots(other, sights.sizes)
             if sights.link(spot, far) != (0, 1)]
    return found[0]


def along(sights, walk, x, y):
    """The link that the odd walk tells for x and y."""
    looks = walk_of(walk, sights)
    spot = spot_in(x, sights.sizes, looks[0])
    last = spot_in(y, sights.sizes, looks[-1])
    told = (1, 1)
    for place in range(1, len(looks) - 1, 2):
        near, far = first_linked(sights, looks[place], looks[place + 1])
        told = times(told, over(sights.link(spot, near), sights.link(near, far)))
        spot = far
    return times(told, sights.link(spot, last))
