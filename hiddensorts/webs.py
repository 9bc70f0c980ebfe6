"""The web of linked pairs: its pieces, their sides, and walks."""

from hiddensorts.errors import BadLook, BadPiece
from hiddensorts.lots import is_below

EVEN = 0
ODD = 1


def look_of(value, sights):
    """The look, if it is one of the sights."""
    if not is_below(value, len(sights.sizes)):
        raise BadLook()
    return value


def steps_by(linked, many):
    """For each of so many looks the ascending tuple of the looks that it is linked with, a list."""
    looks = range(many)
    return [tuple([other for other in looks if tuple(sorted([look, other])) in linked]) for look in looks]


def walks_from(look, steps):
    """The least walks of at least one step from a look, a dict by the pairs (last look, EVEN or ODD)."""
    found = {}
    waiting = [(look,)]
    at = 0
    while at < len(waiting):
        walk = waiting[at]
        at += 1
        for near in steps[walk[-1]]:
            end = (near, len(walk) % 2)
            if end not in found:
                found[end] = walk + (near,)
                waiting.append(found[end])
    return found


def ends_of(walks):
    """The looks to which walks lead, ascending, a tuple."""
    return tuple(sorted({end[0] for end in walks}))


class Web:
    """What walks along the linked pairs of sights join."""

    def __init__(self, sights):
        self.sights = sights
        self._steps = tuple(steps_by(sights.linked(), len(sights.sizes)))
        self._walks = tuple([walks_from(look, self._steps) for look in range(len(sights.sizes))])
        joined = [ends_of(walks) for walks in self._walks]
        # A walk that turns back leads to its first look, so the looks joined with a look hold it, unless it is a loner.
        self.pieces = tuple([ends for look, ends in enumerate(joined) if ends and ends[0] == look])
        self.loners = tuple([look for look, ends in enumerate(joined) if not ends])
        self.still = tuple([look for look in self.loners if self._meets_piece(look)])

    def _meets_piece(self, look):
        """Whether a look is in a seen pair with a look of a piece."""
        return any([look in pair and any([self._steps[other] for other in pair]) for pair in self.sights.pairs()])

    @property
    def free(self):
        """The number of sided pieces."""
        return len([piece for piece in self.pieces if not self._comes_back(piece)])

    def _comes_back(self, piece):
        """Whether an odd walk leads from a look of a piece back to it."""
        return (piece[0], ODD) in self._walks[piece[0]]

    def piece_of(self, look):
        """The number of the look's piece; -1 for a loner."""
        chosen = look_of(look, self.sights)
        for number, piece in enumerate(self.pieces):
            if chosen in piece:
                return number
        return -1

    def is_ringed(self, number):
        """Whether the piece is ringed."""
        return self._comes_back(piece_at(self, number))

    def sides_of(self, number):
        """The tuple (side A, side B); for a ringed piece (all its looks, ())."""
        piece = piece_at(self, number)
        if self._comes_back(piece):
            return (piece, ())
        ends = self._walks[piece[0]]
        return (tuple([look for look in piece if (look, EVEN) in ends]),
                tuple([look for look in piece if (look, ODD) in ends]))

    def steps(self, look):
        """The looks linked with the look, ascending, a tuple."""
        return self._steps[look_of(look, self.sights)]

    def walk(self, look, other, odd):
        """A walk with the fewest steps among the odd (or even) ones with at least one step; None if there is none."""
        ends = self._walks[look_of(look, self.sights)]
        return ends.get((look_of(other, self.sights), ODD if odd else EVEN))


def piece_at(web, number):
    """The piece of a number."""
    if not is_below(number, len(web.pieces)):
        raise BadPiece()
    return web.pieces[number]
