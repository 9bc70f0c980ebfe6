"""What the pairs of a piece tell: tilts, told links and tables, heights."""

from hiddensorts.errors import Clash, IsRinged, OtherPiece
from hiddensorts.links import look_spots, told_along
from hiddensorts.lots import all_rows, spot_of
from hiddensorts.ratios import greatest, negative, over, plus, sign_of, times
from hiddensorts.reasons import base_of, piece_links, piece_reason
from hiddensorts.tables import Table
from hiddensorts.webs import Web, look_of, piece_at


def odd_numbers(web, number, links, base):
    """told(x0,y), x0 the base spot, for each spot y of a look of the piece to which odd walks lead from it; a dict."""
    sizes = web.sights.sizes
    found = {}
    for look in piece_at(web, number):
        walk = web.walk(base[0], look, True)
        if walk is not None:
            for spot in look_spots(look, sizes):
                found[spot] = told_along(links, sizes, walk, base, spot)
    return found


def even_numbers(web, number, links, base, odd):
    """For each spot of a look to which even walks lead from the base spot: its links over the odd numbers; a dict."""
    sizes = web.sights.sizes
    found = {}
    for look in piece_at(web, number):
        if web.walk(base[0], look, False) is not None:
            far = [spot for spot in look_spots(web.steps(look)[0], sizes) if odd[spot] != (0, 1)][0]
            for spot in look_spots(look, sizes):
                found[spot] = over(links[(spot, far)], odd[far])
    return found


def piece_spot_of(value, tilts):
    """The spot, a tuple, if it is one of the piece."""
    spot = spot_of(value, tilts.sights.sizes)
    judge_look(spot[0], tilts)
    return spot


def piece_look_of(value, tilts):
    """The look, if it is one of the piece."""
    look = look_of(value, tilts.sights)
    judge_look(look, tilts)
    return look


def judge_look(look, tilts):
    """Refuse a look that is not in the piece."""
    if look not in tilts.looks:
        raise OtherPiece()


def judge_sided(tilts):
    """Refuse a ringed piece."""
    if tilts.ringed:
        raise IsRinged()


def piece_spots(tilts):
    """The spots of the piece, ascending, a list."""
    return [spot for look in tilts.looks for spot in look_spots(look, tilts.sights.sizes)]


class Tilts:
    """What the pairs of a piece tell."""

    def __init__(self, sights, number):
        web = Web(sights)
        self.sights = sights
        self.looks = piece_at(web, number)
        self.number = number
        links = piece_links(web, number)
        why = piece_reason(web, number, links)
        if why is not None:
            raise Clash(why)
        self.ringed = web.is_ringed(number)
        self.sides = web.sides_of(number)
        self.base = base_of(web, number, links)
        # The link of two spots is told exactly if one has an even number and the other an odd one: their product.
        self._odd = odd_numbers(web, number, links, self.base)
        self._even = even_numbers(web, number, links, self.base, self._odd)

    def reach(self, spot):
        """The tilt of a spot of the piece; in a ringed piece its told link with the base spot."""
        return self._odd[spot] if spot in self._odd else self._even[spot]

    def tilt(self, spot):
        """The tilt of a spot."""
        chosen = piece_spot_of(spot, self)
        judge_sided(self)
        return self.reach(chosen)

    def leaning(self, spot):
        """The sort to which a spot leans: 1 for sort 0, -1 for sort 1, 0 for none."""
        return sign_of(self.reach(piece_spot_of(spot, self)))

    def told(self, x, y):
        """The told link of two spots; None if it is not told."""
        spot = spot_of(x, self.sights.sizes)
        other = spot_of(y, self.sights.sizes)
        judge_look(spot[0], self)
        judge_look(other[0], self)
        if spot in self._even and other in self._odd:
            return times(self._even[spot], self._odd[other])
        if spot in self._odd and other in self._even:
            return times(self._odd[spot], self._even[other])
        # Two spots of one side: whatever the factor between their worlds' links, 0 times it is 0.
        return (0, 1) if (0, 1) in (self.reach(spot), self.reach(other)) else None

    def told_table(self, look, other):
        """The told table of two looks, or of one asked again; None if no odd walk joins them."""
        pair = tuple(sorted([look_of(look, self.sights), look_of(other, self.sights)]))
        judge_look(pair[0], self)
        judge_look(pair[1], self)
        if not self.ringed and (pair[0] in self.sides[0]) == (pair[1] in self.sides[0]):
            return None
        return linked_table(self.sights, pair, self._told_rows(pair))

    def _told_rows(self, pair):
        """The told links of the rows of two looks, in order, a list."""
        return [self.told((pair[0], answer), (pair[1], far)) for answer, far in all_rows(pair, self.sights.sizes)]

    def heights(self):
        """The tuple (HIGH(A), LOW(A), HIGH(B), LOW(B)); for a ringed piece (HIGH, LOW)."""
        if self.ringed:
            own = [(self.leaning(spot), self.told(spot, spot)) for spot in piece_spots(self)]
            return tuple([greatest([link for side, link in own if side == sign]) for sign in (1, -1)])
        found = []
        for looks in self.sides:
            tilts = [self.reach(spot) for look in looks for spot in look_spots(look, self.sights.sizes)]
            found = found + [greatest(tilts), greatest([negative(tilt) for tilt in tilts])]
        return tuple(found)


def linked_table(sights, pair, links):
    """The Table of two looks, ascending, or of one asked again, with these links of its rows, in order."""
    entries = []
    for (answer, far), link in zip(all_rows(pair, sights.sizes), links):
        shares = times(sights.singles[pair[0]][answer], sights.singles[pair[1]][far])
        entries.append(times(shares, plus(1, link)))
    return Table(pair, sights.sizes, entries)
