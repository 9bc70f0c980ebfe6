"""Worlds of sorts."""

from hiddensorts.errors import BadChances, BadLot, BadSize, BadSort, BadWorld, NeverMet
from hiddensorts.lots import asking_of, is_below, row_count, sizes_of, spot_of, spots_in_order
from hiddensorts.ratios import as_ratio, is_int, is_list, is_number, product_of, sign_of, times, total
from hiddensorts.sights import Sights, seen_lot_of
from hiddensorts.tables import Table, entries_of


def chances_of(value):
    """The chances of sorts, a tuple of ratios."""
    if not is_list(value):
        raise BadChances()
    if not all([is_number(chance) and sign_of(chance) > 0 for chance in value]) or total(value) != (1, 1):
        raise BadChances()
    return tuple([as_ratio(chance) for chance in value])


def are_chances(value):
    """Whether a value of any kind is the chances of the answers of a look, perhaps below 0."""
    if not is_list(value) or len(value) < 2:
        return False
    return all([is_number(chance) for chance in value]) and total(value) == (1, 1)


def judge_sort(which, sort, first):
    """Refuse an entry that is no sort, or has not the looks and answers of the first sort."""
    if not is_list(sort) or len(sort) == 0 or len(sort) != len(first):
        raise BadWorld(which, -1)
    for look, chances in enumerate(sort):
        if not are_chances(chances) or len(chances) != len(first[look]):
            raise BadWorld(which, look)


def sorts_of(value, many):
    """The chances of the looks in so many sorts, a tuple of tuples of tuples of ratios."""
    if not is_list(value) or len(value) != many:
        raise BadWorld(-1, -1)
    for which, sort in enumerate(value):
        judge_sort(which, sort, value[0])
    return tuple([tuple([tuple([as_ratio(chance) for chance in chances]) for chances in looks]) for looks in value])


def sort_of(value, world):
    """The sort, if it is one of the world."""
    if not is_below(value, len(world)):
        raise BadSort()
    return value


def row_shares(start, sorts, asking):
    """For each row of an asking, in order, one ratio for each sort: its start times its chances at the row."""
    shares = [list(start)]
    for look in asking:
        shares = [[times(share, sort[look][answer]) for share, sort in zip(row, sorts)]
                  for row in shares for answer in range(len(sorts[0][look]))]
    return shares


def made_entry(world, spots):
    """The made entry at a row that has these spots."""
    return total([product_of([chance] + [sort[look][answer] for look, answer in spots])
                  for chance, sort in zip(world.chances, world.sorts)])


def parts_of(value, size):
    """Lists of answers, if together they have each of so many answers once."""
    if not is_list(value) or len(value) < 2:
        raise BadSize()
    if not all([is_list(answers) and len(answers) > 0 for answers in value]):
        raise BadSize()
    answers = [answer for group in value for answer in group]
    if not all([is_below(answer, size) for answer in answers]) or sorted(answers) != list(range(size)):
        raise BadSize()
    return [list(group) for group in value]


class World:
    """Sorts with their chances, and the chances of the answers of each look in each sort."""

    def __init__(self, chances, sorts):
        self.chances = chances_of(chances)
        self.sorts = sorts_of(sorts, len(self.chances))
        self.sizes = tuple([len(answers) for answers in self.sorts[0]])

    @classmethod
    def even(cls, sizes, many):
        """The World of so many sorts with equal chances, in which all answers of a look have equal chances."""
        judged = sizes_of(sizes)
        if not is_int(many) or many < 1:
            raise BadSort()
        sort = [[(1, size)] * size for size in judged]
        return cls([(1, many)] * many, [sort] * many)

    @property
    def fair(self):
        """Whether no chance is below 0."""
        return all([sign_of(chance) >= 0 for sort in self.sorts for answers in sort for chance in answers])

    def __len__(self):
        return len(self.chances)

    def __eq__(self, other):
        return isinstance(other, World) and self.chances == other.chances and self.sorts == other.sorts

    def __add__(self, other):
        if self.chances != other.chances:
            raise BadChances()
        return World(self.chances, [mine + theirs for mine, theirs in zip(self.sorts, other.sorts)])

    def chance_at(self, sort, spot):
        """The chance of a spot in a sort."""
        which = sort_of(sort, self)
        look, answer = spot_of(spot, self.sizes)
        return self.sorts[which][look][answer]

    def single(self, spot):
        """The single of a spot."""
        return made_entry(self, [spot_of(spot, self.sizes)])

    def made(self, asking):
        """The Table made for an asking."""
        chosen = asking_of(asking, len(self.sizes))
        if not chosen:
            raise BadLot(-1)
        shares = row_shares(self.chances, self.sorts, chosen)
        return Table(chosen, self.sizes, [total(row) for row in shares])

    def renamed(self, order):
        """The World whose sort k is sort order[k] of this one."""
        if not is_list(order) or not all([is_below(sort, len(self)) for sort in order]):
            raise BadSort()
        if sorted(order) != list(range(len(self))):
            raise BadSort()
        return World([self.chances[sort] for sort in order], [self.sorts[sort] for sort in order])

    def same_as(self, other):
        """Whether the other World is this one with its sorts numbered otherwise."""
        return sorted(list(zip(self.chances, self.sorts))) == sorted(list(zip(other.chances, other.sorts)))

    def stands_behind(self, sights):
        """Whether the world makes the singles and each seen table of the sights."""
        if self.sizes != sights.sizes:
            return False
        lots = [(look,) for look in range(len(self.sizes))] + list(sights.lots)
        return all([self.made(lot) == sights.table(lot) for lot in lots])

    def sights_of(self, lots):
        """The Sights with the world's singles and the made tables of these lots, in this order."""
        for spot in spots_in_order(self.sizes):
            if sign_of(self.single(spot)) <= 0:
                raise NeverMet(spot)
        if not is_list(lots):
            raise BadLot(-1)
        seen = []
        for lot in lots:
            chosen = seen_lot_of(lot, len(self.sizes))
            entries = self.made(chosen).entries
            seen.append((chosen, entries_of(entries, row_count(chosen, self.sizes), fair=True)))
        singles = [self.made((look,)).entries for look in range(len(self.sizes))]
        return Sights(singles, seen=seen)

    def without(self, look):
        """The World of the other looks, in their order."""
        if not is_below(look, len(self.sizes)) or len(self.sizes) == 1:
            raise BadLot(0)
        return World(self.chances, [sort[:look] + sort[look + 1:] for sort in self.sorts])

    def mixed(self, look, parts):
        """The World in which answer k of the look is the answers in parts[k] thrown together."""
        if not is_below(look, len(self.sizes)):
            raise BadLot(0)
        groups = parts_of(parts, self.sizes[look])
        sorts = [sort[:look] + (mixed_answers(sort[look], groups),) + sort[look + 1:] for sort in self.sorts]
        return World(self.chances, sorts)


def mixed_answers(chances, groups):
    """The sums of the chances of the answers of each group, a tuple."""
    return tuple([total([chances[answer] for answer in group]) for group in groups])
