"""The ends of chances, verdicts, leans and bends over the fair worlds of a piece."""

from hiddensorts.errors import Outside
from hiddensorts.frames import lies_within
from hiddensorts.giving import bend, lean
from hiddensorts.loose import sided_world
from hiddensorts.lots import spot_of
from hiddensorts.making import judge_two, single_met
from hiddensorts.ratios import as_ratio, greatest, least, minus, over, times
from hiddensorts.tilts import judge_sided, piece_spot_of


def ends_of(numbers):
    """The tuple (least, greatest) of a list of ratios."""
    return (least(numbers), greatest(numbers))


def chance_ends(frame):
    """The ends of the chance of sort 0."""
    return (frame.second_end().chances[0], frame.first_end().chances[0])


def verdict(world, spot):
    """The verdict by a spot of a world of two sorts."""
    judge_two(world)
    chosen = spot_of(spot, world.sizes)
    return over(times(world.chances[0], world.chance_at(0, chosen)), single_met(world, chosen))


def verdict_ends(frame, spot):
    """The ends of the verdict by a spot of the piece."""
    chosen = piece_spot_of(spot, frame.tilts)
    return (verdict(frame.second_end(), chosen), verdict(frame.first_end(), chosen))


def lean_ends(frame, spot):
    """The ends of the lean of a spot of the piece."""
    chosen = piece_spot_of(spot, frame.tilts)
    return ends_of([lean(frame.first_end(), chosen), lean(frame.second_end(), chosen)])


def bend_ends(frame, spot):
    """The ends of the bend of a spot of the piece."""
    chosen = piece_spot_of(spot, frame.tilts)
    return ends_of([bend(frame.first_end(), chosen), bend(frame.second_end(), chosen)])


def verdict_world(frame, chance):
    """A fair world of a sided piece in which sort 0 has this chance."""
    judge_sided(frame)
    p = as_ratio(chance)
    low, high = chance_ends(frame)
    if not lies_within(p, low, high):
        raise Outside()
    # By p = t / (s + t), t is s times the odds; the least s that keeps both in the oblong serves.
    odds = over(p, minus(1, p))
    s = greatest([frame.s_low, over(frame.t_low, odds)])
    return sided_world(frame.tilts, s, times(s, odds))
