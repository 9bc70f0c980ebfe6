"""The told leans of a piece with a three."""

from hiddensorts.errors import Clash, NoThree
from hiddensorts.ratios import minus, over, plus, times
from hiddensorts.threes import holds_three, lean_reason, lot_reason, slope_of, told_leans
from hiddensorts.tilts import Tilts, piece_spot_of
from hiddensorts.webs import Web, piece_at


def has_three(sights, number):
    """Whether some seen lot has three looks of the piece."""
    return holds_three(sights, piece_at(Web(sights), number))


class Leans:
    """The told leans of a piece."""

    def __init__(self, sights, number):
        if not has_three(sights, number):
            raise NoThree()
        self.sights = sights
        self.number = number
        self.tilts = Tilts(sights, number)
        self.looks = self.tilts.looks
        told = told_leans(self.tilts)
        why = lean_reason(self.tilts, told)
        if why is not None:
            raise Clash(why)
        self.slope = slope_of(self.tilts, told)
        why = lot_reason(self.tilts, self.slope)
        if why is not None:
            raise Clash(why)

    def lean(self, x):
        """The told lean of a spot."""
        return times(self.slope, self.tilts.reach(piece_spot_of(x, self.tilts)))

    def bend(self, x):
        """The bend of a spot."""
        spot = piece_spot_of(x, self.tilts)
        return minus(plus(1, self.lean(spot)), self.tilts.told(spot, spot))

    def link(self, x, y):
        """The told link of two spots, of one look too."""
        spot = piece_spot_of(x, self.tilts)
        return self.tilts.told(spot, piece_spot_of(y, self.tilts))

    def balance(self):
        """The balance of every world of the piece that makes its lots."""
        # By 1/balance = 4 + b_x b_y / told(x, y), at the base spot.
        square = times(times(self.slope, self.slope), self.tilts.reach(self.tilts.base))
        return over(1, plus(4, square))
