"""A drawing that turns one matrix into another one, or stakes that show that there is none."""

from hiddensorts.drawings import Drawing, column_sums
from hiddensorts.errors import BadMatrix
from hiddensorts.matrices import matrix_of
from hiddensorts.splitting import drawn_or_shown
from hiddensorts.stakes import Stakes


def part_or_draw(matrix, other):
    """A Drawing that turns the matrix into the other one, or Stakes that are worth more by the other one."""
    start = matrix_of(matrix)
    end = matrix_of(other)
    # Sums of unlike many columns are unlike, too.
    if column_sums(start) != column_sums(end):
        raise BadMatrix()
    rows, acts = drawn_or_shown(start, end)
    return Drawing(rows) if acts is None else Stakes(acts)
