"""What odd walks tell."""

from hiddensorts.errors import BadWalk
from hiddensorts.links import links_of, told_along
from hiddensorts.lots import is_below, spot_in
from hiddensorts.ratios import is_list


def walk_of(value, sights):
    """The odd walk, a tuple."""
    if not is_list(value) or len(value) % 2 == 1 or len(value) == 0:
        raise BadWalk(-1)
    linked = sights.linked()
    for place, look in enumerate(value):
        if not is_below(look, len(sights.sizes)):
            raise BadWalk(place)
        if place > 0 and tuple(sorted([value[place - 1], look])) not in linked:
            raise BadWalk(place)
    return tuple(value)


def steps_along(walk):
    """The pairs of looks that a walk goes along, each once, ascending, a list."""
    return sorted({tuple(sorted([walk[place - 1], walk[place]])) for place in range(1, len(walk))})


def along(sights, walk, x, y):
    """The link that the odd walk tells for x and y."""
    looks = walk_of(walk, sights)
    spot = spot_in(x, sights.sizes, looks[0])
    last = spot_in(y, sights.sizes, looks[-1])
    return told_along(links_of(sights, steps_along(looks)), sights.sizes, looks, spot, last)
