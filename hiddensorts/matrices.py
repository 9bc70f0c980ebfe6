"""Matrices of ratios. They are reckoned with in integers: each step divides without rest (Bareiss)."""

from hiddensorts.errors import BadMatrix
from hiddensorts.ratios import as_ratio, is_list, is_number, shared_bottom


def is_matrix(value):
    """Whether a value of any kind is a list of at least one list, all of the same length of at least 1, of numbers."""
    if not is_list(value) or len(value) == 0:
        return False
    for row in value:
        if not is_list(row) or len(row) == 0 or len(row) != len(value[0]):
            return False
        if not all([is_number(entry) for entry in row]):
            return False
    return True


def matrix_of(m):
    """The matrix as a tuple of tuples of ratios."""
    if not is_matrix(m):
        raise BadMatrix()
    return tuple([tuple([as_ratio(entry) for entry in row]) for row in m])


def scaled_up(row, factor):
    """The entries of a row times a factor that makes them integers."""
    return [entry[0] * factor // entry[1] for entry in row]


def whole_rows(rows):
    """The rows, each times the least factor that makes its entries integers."""
    return [scaled_up(row, shared_bottom(row)) for row in rows]


def first_place(row):
    """The first index with an entry that is not 0; None if there is none."""
    for index, entry in enumerate(row):
        if entry != 0:
            return index
    return None


def less_chosen(row, chosen):
    """What is left of a row of integers when multiples of the chosen rows, in order, make it 0 at their pivots."""
    before = 1
    for pivot, taken in chosen:
        top = taken[pivot]
        factor = row[pivot]
        row = [(entry * top - factor * other) // before for entry, other in zip(row, taken)]
        before = top
    return row


def first_rows(m):
    """The indexes of the rows that are no sum of multiples of the rows before them, a tuple."""
    found = []
    chosen = []
    for index, row in enumerate(whole_rows(matrix_of(m))):
        rest = less_chosen(row, chosen)
        pivot = first_place(rest)
        if pivot is not None:
            found.append(index)
            chosen.append((pivot, rest))
    return tuple(found)


def rank(m):
    """The rank, an integer."""
    return len(first_rows(m))


def turned(m):
    """The matrix with rows and columns exchanged."""
    rows = matrix_of(m)
    return tuple(list(zip(*rows)))


def multiply(m, n):
    """The product matrix."""
    rows = matrix_of(m)
    columns = turned(n)
    if len(rows[0]) != len(columns[0]):
        raise BadMatrix()
    row_factors = [shared_bottom(row) for row in rows]
    column_factors = [shared_bottom(column) for column in columns]
    wholes = whole_rows(rows)
    others = whole_rows(columns)
    return tuple([tuple([as_ratio((dot(row, column), factor * other))
                         for column, other in zip(others, column_factors)])
                  for row, factor in zip(wholes, row_factors)])


def dot(row, column):
    """The sum of the products of two lists of integers, place by place."""
    return sum([entry * other for entry, other in zip(row, column)])


def with_units(rows):
    """The rows as integers, each with the same multiple of its row of the unit matrix behind it."""
    many = len(rows)
    found = []
    for index, row in enumerate(rows):
        factor = shared_bottom(row)
        units = [factor if place == index else 0 for place in range(many)]
        found.append(scaled_up(row, factor) + units)
    return found


def pivot_from(work, index):
    """The first index, from this one on, of a row that does not begin with 0; None if there is none."""
    for place in range(index, len(work)):
        if work[place][0] != 0:
            return place
    return None


def inverse(m):
    """The inverse matrix; None if there is none."""
    rows = matrix_of(m)
    if len(rows) != len(rows[0]):
        raise BadMatrix()
    work = with_units(rows)
    before = 1
    # The first column is cleared and dropped until only what stood behind the matrix is left.
    for index in range(len(rows)):
        pivot = pivot_from(work, index)
        if pivot is None:
            return None
        taken = work[pivot]
        top = taken[0]
        others = work[:pivot] + work[pivot + 1:]
        cleared = [[(entry * top - row[0] * other) // before for entry, other in zip(row[1:], taken[1:])]
                   for row in others]
        work = cleared[:index] + [taken[1:]] + cleared[index:]
        before = top
    sign = 1 if before > 0 else -1
    return tuple([tuple([as_ratio((sign * entry, sign * before)) for entry in row]) for row in work])


def rows_at(rows, places):
    """The part of a matrix with these rows, a tuple."""
    return tuple([rows[place] for place in places])


def columns_at(rows, columns):
    """The part of a matrix with these columns, a tuple of tuples."""
    return tuple([tuple([row[column] for column in columns]) for row in rows])


def cut_out(rows, places, columns):
    """The part of a matrix with these rows and these columns, a tuple of tuples."""
    return columns_at(rows_at(rows, places), columns)


def null_columns(m):
    """For each column that is a sum of multiples of those before it, the numbers by which all sum to 0, a list.

    Each is a tuple with one ratio for each column, -1 at that column.
    """
    rows = matrix_of(m)
    many = len(rows[0])
    chosen = first_rows(turned(rows))
    found = []
    for column in range(many):
        if column not in chosen:
            numbers = [(-1, 1) if place == column else (0, 1) for place in range(many)]
            for place, number in zip(chosen, multiples_for(rows, chosen, column)):
                numbers[place] = number
            found.append(tuple(numbers))
    return found


def multiples_for(rows, chosen, column):
    """The multiples of the chosen independent columns that sum to a column that hangs on them, a list."""
    if not chosen:
        return []
    places = first_rows(columns_at(rows, chosen))
    solved = multiply(inverse(cut_out(rows, places, chosen)), cut_out(rows, places, [column]))
    return [line[0] for line in solved]


def positive(m):
    """Whether no list of numbers makes the form of a symmetric matrix fall below 0."""
    rows = matrix_of(m)
    if rows != turned(rows):
        raise BadMatrix()
    # Scaling a row and its column alike leaves the sign of every value of the form possible as before.
    factors = [shared_bottom(row) for row in rows]
    work = [[entry * factor for entry, factor in zip(row, factors)] for row in whole_rows(rows)]
    before = 1
    while work:
        first = work[0]
        top = first[0]
        if top < 0 or (top == 0 and any(first)):
            return False
        if top == 0:
            work = [row[1:] for row in work[1:]]
        else:
            work = [[(entry * top - row[0] * other) // before for entry, other in zip(row[1:], first[1:])]
                    for row in work[1:]]
            before = top
    return True
