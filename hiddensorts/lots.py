"""Sizes, lots, askings, spots and rows."""

from hiddensorts.errors import BadLot, BadSize, BadSpot
from hiddensorts.ratios import is_int, is_list

MOST_LOOKS = 8
LEAST_ANSWERS = 2
MOST_ANSWERS = 6


def is_below(value, many):
    """Whether a value of any kind is an integer from 0 to many - 1, so a look, an answer or a sort."""
    return is_int(value) and 0 <= value < many


def sizes_of(value):
    """The sizes, a tuple."""
    if not is_list(value) or not 1 <= len(value) <= MOST_LOOKS:
        raise BadSize()
    for size in value:
        if not is_int(size) or not LEAST_ANSWERS <= size <= MOST_ANSWERS:
            raise BadSize()
    return tuple(value)


def rising_looks(value, many, step):
    """The looks of a list, a tuple, if each one is at least the one before it plus the step."""
    if not is_list(value):
        raise BadLot(-1)
    for place, look in enumerate(value):
        if not is_below(look, many):
            raise BadLot(place)
        if place > 0 and look < value[place - 1] + step:
            raise BadLot(place)
    return tuple(value)


def lot_of(value, many):
    """The lot of looks 0 .. many - 1, a tuple."""
    return rising_looks(value, many, 1)


def asking_of(value, many):
    """The asking of looks 0 .. many - 1, a tuple."""
    return rising_looks(value, many, 0)


def spot_of(value, sizes):
    """The spot, a tuple."""
    if not is_list(value) or len(value) != 2:
        raise BadSpot()
    look, answer = value
    if not is_below(look, len(sizes)) or not is_below(answer, sizes[look]):
        raise BadSpot()
    return (look, answer)


def spot_in(value, sizes, look):
    """The spot of one look, a tuple; a spot of another look is refused, too."""
    spot = spot_of(value, sizes)
    if spot[0] != look:
        raise BadSpot()
    return spot


def row_of(value, asking, sizes):
    """The row of an asking, a tuple."""
    spots = row_spots(asking, value)
    return tuple([spot_of(spot, sizes)[1] for spot in spots])


def row_spots(asking, row):
    """The spot of each place of a row, a tuple. The answers are not judged."""
    if not is_list(row) or len(row) != len(asking):
        raise BadSpot()
    return tuple(list(zip(asking, row)))


def row_count(asking, sizes):
    """The number of rows of an asking."""
    many = 1
    for look in asking:
        many = many * sizes[look]
    return many


def all_rows(asking, sizes):
    """The rows of an asking, the last place going fastest, a list."""
    # Operators take their rows from here, as what they run may not yield (L5).
    rows = [()]
    for look in asking:
        rows = [row + (answer,) for row in rows for answer in range(sizes[look])]
    return rows


def row_index(row, asking, sizes):
    """The index of a row of an asking in the order of rows. The answers are not judged."""
    index = 0
    for look, answer in zip(asking, row):
        index = index * sizes[look] + answer
    return index


def rows_in_order(asking, sizes):
    """Yield the rows of an asking, the last place going fastest."""
    rows = all_rows(asking, sizes)
    yield from rows


def spots_in_order(sizes):
    """Yield all spots, ascending."""
    for look, size in enumerate(tuple(sizes)):
        for answer in range(size):
            yield (look, answer)
