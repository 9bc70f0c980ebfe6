"""Matrices sewn along odd walks of an even web."""

from hiddensorts.errors import BadWalk
from hiddensorts.lots import is_below
from hiddensorts.matrices import columns_at, cut_out, inverse, multiply, rows_at
from hiddensorts.ratios import is_list


def odd_walk_of(value, web):
    """The odd walk along seen pairs, a tuple."""
    if not is_list(value) or len(value) == 0 or len(value) % 2 == 1:
        raise BadWalk(-1)
    pairs = web.sights.pairs()
    for place, look in enumerate(value):
        if not is_below(look, len(web.sights.sizes)):
            raise BadWalk(place)
        if place > 0 and tuple(sorted([value[place - 1], look])) not in pairs:
            raise BadWalk(place)
    return tuple(value)


def joined_on(web, matrix, middle, other):
    """A matrix whose columns are answers of one look, and one whose rows are those of another, sewn together.

    The middle is the seen pair of the second look and the first one.
    """
    places, columns = web.base_of(middle[0], middle[1])
    between = inverse(cut_out(web.seen_matrix(middle[0], middle[1]), places, columns))
    return multiply(multiply(columns_at(matrix, columns), between), rows_at(other, places))


def sewn(web, walk):
    """The matrix that an odd walk sews: rows by the answers of its first look, columns by those of its last one."""
    looks = odd_walk_of(walk, web)
    found = web.seen_matrix(looks[0], looks[1])
    for place in range(2, len(looks), 2):
        middle = (looks[place], looks[place - 1])
        found = joined_on(web, found, middle, web.seen_matrix(looks[place], looks[place + 1]))
    return found


def told_matrix(web, look, other):
    """The matrix that a shortest odd walk from look to other sews; None if there is none."""
    walk = web.walk(look, other, True)
    return None if walk is None else sewn(web, walk)
