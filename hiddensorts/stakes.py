"""Stakes on sorts and on lots, and what they are worth."""

from hiddensorts.errors import BadStakes, NotFull
from hiddensorts.fullness import lot_matrix
from hiddensorts.matrices import first_rows, inverse, is_matrix, matrix_of, multiply, rows_at
from hiddensorts.ratios import greatest, negative, times, total, weighted
from hiddensorts.splitting import spread


def acts_of(value):
    """The acts of stakes, a tuple of tuples of ratios."""
    if not is_matrix(value):
        raise BadStakes()
    return matrix_of(value)


class Stakes:
    """Acts, each with as many numbers."""

    def __init__(self, acts):
        self.acts = acts_of(acts)
        self.width = len(self.acts[0])

    def __add__(self, other):
        # Acts of unlike widths make no stakes.
        return Stakes(self.acts + other.acts)

    def __neg__(self):
        return Stakes([[negative(number) for number in act] for act in self.acts])

    def __eq__(self, other):
        return isinstance(other, Stakes) and self.acts == other.acts

    def __len__(self):
        return len(self.acts)


def judge_wide(stakes, width):
    """Refuse stakes of another width."""
    if stakes.width != width:
        raise BadStakes()


def best(stakes, shares):
    """The greatest, over the acts, of the sum of share times number."""
    return greatest([weighted(shares, act) for act in stakes.acts])


def worth_by(matrix, stakes):
    """The worth of the stakes by a matrix."""
    rows = matrix_of(matrix)
    judge_wide(stakes, len(rows[0]))
    return total([best(stakes, row) for row in rows])


def worth_of_sorts(world, lot, stakes):
    """The worth by the lot of stakes on the sorts."""
    rows = lot_matrix(world, lot)
    judge_wide(stakes, len(world))
    return total([best(stakes, [times(share, chance) for share, chance in zip(row, world.chances)]) for row in rows])


def carried(world, lot, stakes):
    """The Stakes on the sorts to which stakes on the lot are carried."""
    rows = lot_matrix(world, lot)
    judge_wide(stakes, len(rows))
    return Stakes(multiply(stakes.acts, rows))


def carried_back(world, lot, stakes):
    """Stakes on the lot that are carried to these stakes on the sorts."""
    rows = lot_matrix(world, lot)
    judge_wide(stakes, len(world))
    places = first_rows(rows)
    if len(places) < len(world):
        raise NotFull()
    solved = multiply(stakes.acts, inverse(rows_at(rows, places)))
    return Stakes([spread(act, places, len(rows)) for act in solved])


def knowing(world, stakes):
    """What knowing the sort brings of stakes on the sorts."""
    judge_wide(stakes, len(world))
    return total([times(chance, greatest([act[sort] for act in stakes.acts]))
                  for sort, chance in enumerate(world.chances)])
