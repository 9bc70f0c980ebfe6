"""Which worlds of pieces are there in ratios."""

from hiddensorts.loose import all_tilts, first_chance, open_chance, root_number, unlike_ring
from hiddensorts.ratios import root_of


def fits_chance(tilts, p):
    """Whether the piece has a world (in ratios) with the chance p of sort 0."""
    chance = open_chance(p)
    return not tilts.ringed or root_of(root_number(tilts, chance)) is not None


def some_chance(tilts):
    """A chance of sort 0 with which the piece has a world (in ratios)."""
    return first_chance(tilts)


def go_together(sights):
    """Whether a world (in ratios) makes the singles and the tables of all seen pairs."""
    return unlike_ring(all_tilts(sights)) is None
