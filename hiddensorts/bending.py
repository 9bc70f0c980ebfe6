"""Whether told leans leave a fair world, and the world in ratios that they leave."""

from hiddensorts.errors import NeedsRoot
from hiddensorts.loose import own_link, world_with
from hiddensorts.ratios import minus, over, root_of, sign_of, times
from hiddensorts.tilts import piece_spots


def turned_spots(leans):
    """The spots of the piece with a bend below 0, ascending, a list."""
    return [spot for spot in piece_spots(leans.tilts) if sign_of(leans.bend(spot)) < 0]


def is_fair(leans):
    """Whether no spot of the piece has a bend below 0."""
    return not turned_spots(leans)


def squares_of(leans):
    """The ratios 1 - 4 balance and balance told(x0, x0), a tuple."""
    share = leans.balance()
    return (minus(1, times(4, share)), times(share, own_link(leans.tilts)))


def world_of(leans):
    """The World of the piece in ratios that makes its lots."""
    squares = squares_of(leans)
    for number in squares:
        if root_of(number) is None:
            raise NeedsRoot(number)
    # A lean is (q - p) times the split, and the base spot's split is above 0.
    skew = times(sign_of(leans.lean(leans.tilts.base)), root_of(squares[0]))
    return world_with(leans.tilts, over(minus(1, skew), 2))
