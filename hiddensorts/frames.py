"""All fair worlds of a piece: an oblong or a stretch."""

from hiddensorts.barring import bars_of
from hiddensorts.errors import BadNumber, NoFair, NotBehind, Outside
from hiddensorts.loose import is_world_of, sided_place, sided_world, world_with
from hiddensorts.lots import is_below
from hiddensorts.ratios import as_ratio, below, over, plus
from hiddensorts.tilts import Tilts


def lies_within(number, low, high):
    """Whether a number is neither below low nor above high."""
    return not below(number, low) and not below(high, number)


def unlike_worlds(worlds):
    """The Worlds of a list without those that are equal to an earlier one, a list."""
    found = []
    for world in worlds:
        if world not in found:
            found.append(world)
    return found


def frame_of(sights, number):
    """The frame of a piece, an Oblong or a Stretch."""
    tilts = Tilts(sights, number)
    bars = bars_of(tilts)
    if bars:
        raise NoFair(bars[0][0], bars[0][1])
    return Stretch(tilts) if tilts.ringed else Oblong(tilts)


class Frame:
    """The fair worlds of a piece."""

    def __init__(self, tilts):
        self.tilts = tilts
        self.sights = tilts.sights
        self.number = tilts.number
        self.ringed = tilts.ringed


class Oblong(Frame):
    """The fair worlds of a sided piece."""

    KIND = "oblong"

    def __init__(self, tilts):
        Frame.__init__(self, tilts)
        high, low, other_high, other_low = tilts.heights()
        self.s_low = other_high
        self.s_high = over(1, low)
        self.t_low = other_low
        self.t_high = over(1, high)

    def holds(self, s, t):
        """Whether (s, t) lies in the oblong."""
        first = as_ratio(s)
        second = as_ratio(t)
        return lies_within(first, self.s_low, self.s_high) and lies_within(second, self.t_low, self.t_high)

    def at(self, s, t):
        """The World at (s, t)."""
        if not self.holds(s, t):
            raise Outside()
        return sided_world(self.tilts, as_ratio(s), as_ratio(t))

    def corner(self, s_end, t_end):
        """The World at a corner; 0 stands for the low end, 1 for the high one."""
        if not is_below(s_end, 2) or not is_below(t_end, 2):
            raise BadNumber()
        return sided_world(self.tilts, (self.s_low, self.s_high)[s_end], (self.t_low, self.t_high)[t_end])

    def coordinates(self, world):
        """The tuple (s, t) of a world of the piece, fair or not."""
        place = sided_place(self.tilts, world)
        if place is None:
            raise NotBehind()
        return place

    def first_end(self):
        """The fair World with the greatest chance of sort 0."""
        return self.corner(0, 1)

    def second_end(self):
        """The fair World with the least chance of sort 0."""
        return self.corner(1, 0)

    def only_one(self):
        """The one fair World; None if there are more."""
        if self.s_low != self.s_high or self.t_low != self.t_high:
            return None
        return self.corner(0, 0)

    def end_worlds(self):
        """The unlike Worlds at the corners (0, 0), (0, 1), (1, 0), (1, 1), a list."""
        return unlike_worlds([self.corner(s_end, t_end) for s_end in range(2) for t_end in range(2)])


class Stretch(Frame):
    """The fair worlds of a ringed piece."""

    KIND = "stretch"

    def __init__(self, tilts):
        Frame.__init__(self, tilts)
        high, low = tilts.heights()
        self.low = over(low, plus(1, low))
        self.high = over(1, plus(1, high))

    def holds(self, p):
        """Whether p lies in the stretch."""
        return lies_within(as_ratio(p), self.low, self.high)

    def at(self, p):
        """The World of the piece with the chance p of sort 0."""
        if not self.holds(p):
            raise Outside()
        return world_with(self.tilts, p)

    def first_end(self):
        """The fair World with the greatest chance of sort 0."""
        return world_with(self.tilts, self.high)

    def second_end(self):
        """The fair World with the least chance of sort 0."""
        return world_with(self.tilts, self.low)

    def only_one(self):
        """The one fair World; None if there are more."""
        return self.first_end() if self.low == self.high else None

    def end_worlds(self):
        """The first and the second end, a list; the first one alone if they are equal."""
        return unlike_worlds([self.first_end(), self.second_end()])


def fair_worlds_of(frame, world):
    """Whether the World is a fair world of the frame's piece."""
    return world.fair and is_world_of(frame.tilts, world)
