"""Even webs: all looks joined by walks of seen pairs of one rank."""

from hiddensorts.checks import two_looks_of
from hiddensorts.errors import NotEven, NotJoined, NotSeen
from hiddensorts.fullness import pair_matrix
from hiddensorts.matrices import first_rows, rank, rows_at, turned
from hiddensorts.webs import Web, ends_of, steps_by, walks_from


def judge_joined(sights):
    """Refuse sights in which no walk of seen pairs leads from look 0 to some look, or that have one look alone."""
    many = len(sights.sizes)
    joined = ends_of(walks_from(0, steps_by(sights.pairs(), many)))
    for look in range(1, many):
        if look not in joined:
            raise NotJoined(look)
    if many == 1:
        raise NotJoined(0)


def seen_matrices(sights):
    """The matrices of the seen pairs, a dict by the two looks, in either order."""
    found = {}
    for look, other in sights.pairs():
        matrix = pair_matrix(sights.table((look, other)), (look,), (other,))
        found[(look, other)] = matrix
        found[(other, look)] = turned(matrix)
    return found


def shared_rank(sights, matrices):
    """The rank of the matrix of each seen pair, if it is the same one above 1."""
    ranks = [(pair, rank(matrices[pair])) for pair in sights.pairs()]
    wanted = ranks[0][1]
    for pair, number in ranks:
        if number == 1 or number != wanted:
            raise NotEven(pair)
    return wanted


class EvenWeb:
    """Sights in which walks of seen pairs join all looks, each seen pair having a matrix of the same rank."""

    def __init__(self, sights):
        judge_joined(sights)
        self.sights = sights
        self._matrices = seen_matrices(sights)
        self.rank = shared_rank(sights, self._matrices)
        # A matrix of a rank above 1 is one of a linked pair, so all looks are one piece of the web of stage 3.
        self._web = Web(sights)
        self.ringed = self._web.is_ringed(0)
        self.sides = self._web.sides_of(0)

    def seen_matrix(self, look, other):
        """The matrix of a seen pair: a row for each answer of look, a column for each one of other."""
        pair = two_looks_of(look, other, self.sights)
        if pair not in self._matrices:
            raise NotSeen(pair)
        return self._matrices[(look, other)]

    def base_of(self, look, other):
        """The base of a seen pair: a tuple of answers of look and a tuple of answers of other."""
        matrix = self.seen_matrix(look, other)
        places = first_rows(matrix)
        return (places, first_rows(turned(rows_at(matrix, places))))

    def walk(self, look, other, odd):
        """A walk with the fewest steps among the odd (or even) ones with at least one step; None if there is none."""
        return self._web.walk(look, other, odd)
