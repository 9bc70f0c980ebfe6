"""Changes of worlds of an even web, unlike worlds, and the fewest sorts that a table needs."""

from hiddensorts.errors import BadChange, IsTold, NotFair, NotOf
from hiddensorts.founding import found, is_of
from hiddensorts.matrices import first_rows, inverse, matrix_of, multiply, rows_at, turned
from hiddensorts.ratios import minus, over, sign_of, times, total
from hiddensorts.webs import look_of
from hiddensorts.worlds import World


def judge_of(web, world):
    """Refuse a world that is none of the web."""
    if not is_of(web, world):
        raise NotOf()


def diagonal(chances):
    """The matrix with the chances on its diagonal, 0 elsewhere."""
    return tuple([tuple([chance if row == column else (0, 1) for column in range(len(chances))])
                  for row, chance in enumerate(chances)])


def new_chances(web, world, rows):
    """The chances of the sorts of the world changed by a matrix, a tuple; BadChange if it is no change."""
    many = len(world)
    if len(rows) != many or len(rows[0]) != many or any([total(column) != (1, 1) for column in turned(rows)]):
        raise BadChange()
    back = inverse(rows)
    if back is None:
        raise BadChange()
    chances = tuple([line[0] for line in multiply(back, [[chance] for chance in world.chances])])
    if any([sign_of(chance) <= 0 for chance in chances]):
        raise BadChange()
    if web.ringed and multiply(multiply(rows, diagonal(chances)), turned(rows)) != diagonal(world.chances):
        raise BadChange()
    return chances


def look_rows(world, look):
    """The chances of a look: a row for each answer, a column for each sort."""
    return turned([sort[look] for sort in world.sorts])


def far_change(world, rows, chances):
    """The matrix by which the chances at the looks of side B change."""
    back = inverse(rows)
    return tuple([tuple([over(times(world.chances[row], back[column][row]), chances[column])
                         for column in range(len(chances))]) for row in range(len(chances))])


def changed(web, world, matrix):
    """The World changed by the matrix."""
    judge_of(web, world)
    rows = matrix_of(matrix)
    chances = new_chances(web, world, rows)
    far = far_change(world, rows, chances)
    looks = [turned(multiply(look_rows(world, look), rows if look in web.sides[0] else far))
             for look in range(len(world.sizes))]
    return World(chances, [[look[sort] for look in looks] for sort in range(len(chances))])


def change_between(web, world, other):
    """The matrix of the change of the first world into the second one."""
    judge_of(web, world)
    judge_of(web, other)
    # Look 0 is of side A, and its chances in the sorts are independent.
    rows = look_rows(world, 0)
    places = first_rows(rows)
    return multiply(inverse(rows_at(rows, places)), rows_at(look_rows(other, 0), places))


def two_of(web, look, other):
    """Two Worlds of the web that make unlike tables for the two looks, or for one look asked again."""
    near = look_of(look, web.sights)
    far = look_of(other, web.sights)
    if web.walk(near, far, True) is not None:
        raise IsTold()
    world = found(web, [(1, web.rank)] * web.rank)
    # A change that leaves the chances and doubles, or halves, how far each sort is from the singles.
    rows = [[minus(2 if row == column else 0, chance) for column in range(len(world))]
            for row, chance in enumerate(world.chances)]
    return (world, changed(web, world, rows))


def fits_beside(rows, place, chosen):
    """Whether a place with an entry above 0 is apart from each of the chosen ones."""
    row, column = place
    return all([rows[row][far] == (0, 1) or rows[near][column] == (0, 1) for near, far in chosen])


def most_apart(rows, row, chosen):
    """The greatest number of places, pairwise apart, that are the chosen ones and more in this row and below it."""
    if row == len(rows):
        return len(chosen)
    # Two places of one row are not apart, so each row gives one place or none.
    numbers = [most_apart(rows, row + 1, chosen)]
    for column, entry in enumerate(rows[row]):
        if entry != (0, 1) and fits_beside(rows, (row, column), chosen):
            numbers.append(most_apart(rows, row + 1, chosen + [(row, column)]))
    return max(numbers)


def apart_number(matrix):
    """The greatest number of places of the matrix with entries above 0 that are pairwise apart, an integer."""
    rows = matrix_of(matrix)
    if any([sign_of(entry) < 0 for row in rows for entry in row]):
        raise NotFair()
    return most_apart(rows, 0, [])
