"""Which drawing turns one matrix into another one, and what shows that there is none."""

from math import gcd

from hiddensorts.matrices import columns_at, first_rows, inverse, multiply, null_columns, rows_at, scaled_up, turned
from hiddensorts.ratios import below, minus, negative, over, shared_bottom, sign_of, times, total, weighted

# So many exchanges go by the quick choice, which might turn in a circle; those behind them go by the sure one.
QUICK = 200


def tie_acts(rows, others):
    """Acts, one for each row of the others, by numbers that make each row 0 but not all of the others; or None."""
    for tie in null_columns(rows):
        sums = [weighted(tie, other) for other in others]
        if any([sign_of(number) != 0 for number in sums]):
            return [[times(sign_of(number), entry) for entry in tie] for number in sums]
    return None


def shrunk(line):
    """The integers of a line, divided by their greatest common divisor."""
    shared = 0
    for entry in line:
        shared = gcd(shared, entry)
        if shared == 1:
            return line
    return [entry // shared for entry in line]


def line_of(numbers):
    """The ratios as integers, behind the least factor above 0 that makes them integers."""
    factor = shared_bottom(numbers)
    return [factor] + scaled_up(numbers, factor)


class Search:
    """The search for the entries of a drawing that turns rows, whose columns are independent, into others.

    An entry is named by the pair (row of the others, row). The rows of the base are independent, and the other rows
    are sums of multiples of them. So all entries hang on some free ones: those at rows outside the base, but for the
    last row of the others. A line says for one entry that hangs on free ones: its first integer, times this entry, is
    its second one plus the next ones times the free entries, which are all 0 so far. An entry below 0 is exchanged
    with a free one that can raise it; where none can, there is no drawing.
    """

    def __init__(self, rows, others):
        self.last = len(others) - 1
        self.base = first_rows(rows)
        self.outside = [place for place in range(len(rows)) if place not in self.base]
        self.inverted = inverse(rows_at(rows, self.base))
        self.names = [(far, place) for far in range(self.last) for place in self.outside]
        self.lines = {(self.last, place): line_of([(1, 1)] + [(-1, 1) if name[1] == place else (0, 1)
                                                              for name in self.names]) for place in self.outside}
        starts = turned(multiply(others, self.inverted))
        shares = multiply(rows_at(rows, self.outside), self.inverted) if self.outside else ()
        for index, place in enumerate(self.base):
            for far, start in enumerate(starts[index]):
                self.lines[(far, place)] = self._base_line(far, start, [share[index] for share in shares])

    def _base_line(self, far, start, shares):
        """The line of an entry at a row of the base, by its shares in the rows outside the base."""
        if far == self.last:
            # The entries of this row are what the rows before it leave of 1.
            return line_of([minus(start, total(shares))] + shares * self.last)
        none = [(0, 1)] * len(shares)
        numbers = [start]
        for row in range(self.last):
            numbers = numbers + ([negative(share) for share in shares] if row == far else none)
        return line_of(numbers)

    def run(self):
        """Exchange entries until none is below 0, or one cannot be raised: its name, else None."""
        many = 0
        while True:
            name = self._wrong_name(many < QUICK)
            if name is None:
                return None
            place = self._raising_place(self.lines[name], many < QUICK)
            if place is None:
                return name
            self._exchange(name, place)
            many += 1

    def _wrong_name(self, quick):
        """The name of an entry below 0: the least entry, or the least name; None if there is none."""
        names = sorted([name for name in self.lines if self.lines[name][1] < 0])
        if not names:
            return None
        found = names[0]
        if quick:
            for name in names:
                if below(self._entry(name), self._entry(found)):
                    found = name
        return found

    def _entry(self, name):
        """The entry of this name, while all free entries are 0."""
        if name not in self.lines:
            return (0, 1)
        line = self.lines[name]
        return over(line[1], line[0])

    def _raising_place(self, line, quick):
        """The index of a free entry that raises that of the line: the one that raises most, or of least name."""
        places = [place for place in range(len(self.names)) if line[place + 2] > 0]
        if not places:
            return None
        if quick:
            return max([(line[place + 2], place) for place in places])[1]
        return min([(self.names[place], place) for place in places])[1]

    def _exchange(self, name, place):
        """Let an entry hang on the others in place of a free one, which takes its part."""
        taken = self.lines[name]
        at = place + 2
        top = taken[at]
        lines = {}
        for other in self.lines:
            line = self.lines[other]
            if other != name and line[at] != 0:
                # Less multiples of the taken line, so that the free entry falls out of this one.
                new = [line[0] * top] + [entry * top - line[at] * far for entry, far in zip(line[1:], taken[1:])]
                new[at] = line[at] * taken[0]
                line = shrunk(new)
            lines[other] = line
        del lines[name]
        new = [top] + [-entry for entry in taken[1:]]
        new[at] = taken[0]
        lines[self.names[place]] = shrunk(new)
        self.lines = lines
        self.names[place] = name

    def found_rows(self):
        """The rows of the drawing, a list of lists, once no entry is below 0."""
        places = sorted(list(self.base) + self.outside)
        return [[self._entry((far, place)) for place in places] for far in range(self.last + 1)]

    def showing_acts(self, name):
        """Acts on the columns that show that the entry of this name stays below 0, a list of lists.

        By its line some sum of entries, with weights not below 0, is below 0. The acts are the numbers by which this
        sum comes of the sums that a drawing must make: worth no more by the rows than the weights allow.
        """
        line = self.lines[name]
        weights = {name: line[0]}
        for place, other in enumerate(self.names):
            weights[other] = -line[place + 2]
        found = []
        for far in range(self.last + 1):
            numbers = [weights.get((self.last, place), 0) - weights.get((far, place), 0) for place in self.base]
            found.append([weighted(row, numbers) for row in self.inverted])
        return found


def spread(numbers, columns, many):
    """Numbers at some of so many columns, 0 at the others, a list."""
    found = [(0, 1)] * many
    for column, number in zip(columns, numbers):
        found[column] = number
    return found


def drawn_or_shown(rows, others):
    """A drawing's rows and None; or None and acts, one for each row of the others, that are worth more by the others.

    The two matrices have as many columns, each with the same sum in both.
    """
    acts = tie_acts(rows, others)
    if acts is not None:
        return (None, acts)
    columns = first_rows(turned(rows))
    if not columns:
        # Both matrices are 0 throughout, so each drawing turns the one into the other.
        return ([[1 if far == 0 else 0] * len(rows) for far in range(len(others))], None)
    search = Search(columns_at(rows, columns), columns_at(others, columns))
    name = search.run()
    if name is None:
        return (search.found_rows(), None)
    return (None, [spread(numbers, columns, len(rows[0])) for numbers in search.showing_acts(name)])
