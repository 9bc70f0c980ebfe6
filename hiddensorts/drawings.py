"""Drawings: which look, or lot, is drawn from which one."""

from hiddensorts.errors import BadDrawing, BadLook, BadMatrix, BadSingle, BadSize, OtherPiece, OtherSide
from hiddensorts.fullness import pair_matrix
from hiddensorts.links import look_spots
from hiddensorts.lots import LEAST_ANSWERS, MOST_ANSWERS
from hiddensorts.matrices import matrix_of, multiply, turned
from hiddensorts.ratios import is_int, is_list, is_number, sign_of, times, total, weighted
from hiddensorts.sights import Sights
from hiddensorts.splitting import drawn_or_shown
from hiddensorts.tilts import Tilts
from hiddensorts.webs import Web, look_of
from hiddensorts.worlds import World


def judge_columns(matrix):
    """Refuse a matrix in which a column has an entry below 0 or another sum than 1."""
    for column, entries in enumerate(turned(matrix)):
        if any([sign_of(entry) < 0 for entry in entries]) or total(entries) != (1, 1):
            raise BadDrawing(column)


class Drawing:
    """The chance of each answer that is drawn (a row) where one was met (a column)."""

    def __init__(self, matrix):
        self.matrix = matrix_of(matrix)
        judge_columns(self.matrix)
        self.rows = len(self.matrix)
        self.columns = len(self.matrix[0])

    @classmethod
    def same(cls, size):
        """The Drawing that draws each of so many answers as itself."""
        if not is_int(size) or size < 1:
            raise BadSize()
        return cls([[1 if row == column else 0 for column in range(size)] for row in range(size)])

    def __call__(self, numbers):
        if not is_list(numbers) or len(numbers) != self.columns or not all([is_number(entry) for entry in numbers]):
            raise BadMatrix()
        return tuple([weighted(row, numbers) for row in self.matrix])

    def __mul__(self, other):
        if other.columns != self.rows:
            raise BadDrawing(-1)
        return Drawing(multiply(other.matrix, self.matrix))

    def __eq__(self, other):
        return isinstance(other, Drawing) and self.matrix == other.matrix

    def __len__(self):
        return len(self.matrix)


def turns(drawing, matrix, other):
    """Whether the drawing turns the matrix into the other one."""
    start = matrix_of(matrix)
    end = matrix_of(other)
    if len(start) != drawing.columns or len(end) != drawing.rows or len(start[0]) != len(end[0]):
        raise BadMatrix()
    return multiply(drawing.matrix, start) == end


def column_sums(matrix):
    """The sums of the columns of a matrix, a list."""
    return [total(column) for column in turned(matrix)]


def drawing_for(matrix, other):
    """A Drawing that turns the matrix into the other one; None if there is none."""
    start = matrix_of(matrix)
    end = matrix_of(other)
    if len(start[0]) != len(end[0]):
        raise BadMatrix()
    # A drawing leaves the sums of the columns as they are.
    if column_sums(start) != column_sums(end):
        return None
    rows, acts = drawn_or_shown(start, end)
    return Drawing(rows) if acts is None else None


def draws(world, look, other, drawing):
    """Whether other is drawn from look by the drawing, in each sort."""
    near = look_of(look, world)
    far = look_of(other, world)
    if drawing.columns != world.sizes[near] or drawing.rows != world.sizes[far]:
        return False
    return all([drawing(sort[near]) == sort[far] for sort in world.sorts])


def judge_fits(drawing, size):
    """Refuse a drawing that does not fit a look of so many answers."""
    if drawing.columns != size or not LEAST_ANSWERS <= drawing.rows <= MOST_ANSWERS:
        raise BadDrawing(-1)


def drawn_look(world, look, drawing):
    """The World with one look more, the last one, drawn from look by the drawing."""
    chosen = look_of(look, world)
    judge_fits(drawing, world.sizes[chosen])
    return World(world.chances, [sort + (drawing(sort[chosen]),) for sort in world.sorts])


def drawn_entries(table, look, near, drawing):
    """The entries of a table of two looks, one of them near, when look is drawn anew; by the answers of near."""
    return [entry for row in pair_matrix(table, (near,), (look,)) for entry in drawing(row)]


def drawn_sights(sights, look, drawing):
    """The Sights with one look more, the last one, drawn from look by the drawing."""
    chosen = look_of(look, sights)
    judge_fits(drawing, sights.sizes[chosen])
    number = len(sights.sizes)
    singles = drawing(sights.singles[chosen])
    if any([sign_of(single) == 0 for single in singles]):
        raise BadSingle(number)
    seen = [(lot, sights.table(lot).entries) for lot in sights.lots]
    for pair in sights.pairs():
        if chosen in pair:
            near = pair[0] if pair[1] == chosen else pair[1]
            seen.append(((near, number), drawn_entries(sights.table(pair), chosen, near, drawing)))
    return Sights(sights.singles + (singles,), seen=seen)


def reach_rows(tilts, look):
    """For each spot of a look of the piece its single, and its single times its reach; a list."""
    rows = []
    for spot in look_spots(look, tilts.sights.sizes):
        single = tilts.sights.single(spot)
        rows.append((single, times(single, tilts.reach(spot))))
    return rows


def told_drawing(sights, look, other):
    """A Drawing that draws other from look in all real worlds of their piece; None if there is none."""
    near = look_of(look, sights)
    far = look_of(other, sights)
    if near == far:
        raise BadLook()
    web = Web(sights)
    number = web.piece_of(near)
    if number == -1 or web.piece_of(far) != number:
        raise OtherPiece()
    tilts = Tilts(sights, number)
    if web.walk(near, far, False) is None:
        raise OtherSide()
    # In each world both sorts' chances at the two looks are singles that rise by the reaches, times the same factor.
    return drawing_for(reach_rows(tilts, near), reach_rows(tilts, far))
