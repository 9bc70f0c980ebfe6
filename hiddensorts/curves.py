"""Curves: what a look can tell, as a line."""

from hiddensorts.errors import BadCurve, BadNumber
from hiddensorts.links import look_spots
from hiddensorts.loose import above_zero
from hiddensorts.ratios import (as_ratio, as_ratios, below, greatest, is_list, is_number, minus, over, plus, sign_of,
                                times, total, weighted)
from hiddensorts.tilts import piece_look_of


def curve_numbers(value):
    """The ratios of a list of numbers, a tuple."""
    if not is_list(value) or not all([is_number(entry) for entry in value]):
        raise BadCurve()
    return tuple(as_ratios(value))


def falling(tilts):
    """The tilts without those that are equal to an earlier one, greatest first, a list."""
    found = []
    left = list(tilts)
    while left:
        high = greatest(left)
        found.append(high)
        left = [tilt for tilt in left if tilt != high]
    return found


def corners_of(weights, tilts):
    """The ends of the straight parts of the line, from left to right, a tuple."""
    found = [((0, 1), (0, 1))]
    for high in falling(tilts):
        width = total([weight for weight, tilt in zip(weights, tilts) if tilt == high])
        along, up = found[-1]
        found.append((plus(along, width), plus(up, times(width, high))))
    return tuple(found)


class Curve:
    """The line of weights by falling tilt."""

    def __init__(self, weights, tilts):
        self.weights = curve_numbers(weights)
        self.tilts = curve_numbers(tilts)
        if len(self.weights) != len(self.tilts) or any([sign_of(weight) <= 0 for weight in self.weights]):
            raise BadCurve()
        if total(self.weights) != (1, 1) or weighted(self.weights, self.tilts) != (0, 1):
            raise BadCurve()
        self.corners = corners_of(self.weights, self.tilts)

    def height(self, u):
        """The height of the line over u."""
        place = as_ratio(u)
        if below(place, 0) or below(1, place):
            raise BadNumber()
        index = 1
        while below(self.corners[index][0], place):
            index += 1
        start, low = self.corners[index - 1]
        end, high = self.corners[index]
        share = over(minus(place, start), minus(end, start))
        return plus(low, times(share, minus(high, low)))

    def inner(self):
        """The inner corners, a tuple."""
        return self.corners[1:-1]

    def is_below(self, other):
        """Whether the line is nowhere above that of the other Curve."""
        # The other line bends down only, so it is above straight parts whose ends it is above.
        return all([not below(other.height(place), up) for place, up in self.inner()])

    def scaled(self, factor):
        """The Curve with all tilts times the factor."""
        number = above_zero(factor)
        return Curve(self.weights, [times(number, tilt) for tilt in self.tilts])

    def least_factor(self, other):
        """The least factor of at least 0 with which this line is nowhere below that of other; None if there is none."""
        if not other.inner():
            return (0, 1)
        if not self.inner():
            return None
        return greatest([over(up, self.height(place)) for place, up in other.inner()])


def curve_of(tilts, look):
    """The Curve of a look of the piece."""
    chosen = piece_look_of(look, tilts)
    reaches = [tilts.reach(spot) for spot in look_spots(chosen, tilts.sights.sizes)]
    return Curve(tilts.sights.singles[chosen], reaches)
