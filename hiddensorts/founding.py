"""Whether an even web has worlds, and worlds of it."""

from hiddensorts.errors import BadChances, Unfounded
from hiddensorts.matrices import columns_at, cut_out, first_rows, inverse, multiply, positive, rank, rows_at, turned
from hiddensorts.ratios import minus, over, times, weighted
from hiddensorts.sewing import sewn, told_matrix
from hiddensorts.tilts import judge_sided
from hiddensorts.untold import judge_ringed
from hiddensorts.worlds import World, chances_of


def near_looks(web, look):
    """The looks seen with a look, ascending, a list."""
    pairs = web.sights.pairs()
    return [other for other in range(len(web.sights.sizes)) if tuple(sorted([look, other])) in pairs]


def span_reason(web):
    """The reason "span" of the first look that has one; None if there is none."""
    for look in range(len(web.sights.sizes)):
        near = near_looks(web, look)
        for other in near[1:]:
            rows = web.seen_matrix(near[0], look) + web.seen_matrix(other, look)
            if rank(rows) > web.rank:
                return ("span", look, near[0], other)
    return None


def ways(web):
    """For each seen pair, in both orders, an odd walk over look 0 from one to the other, if there is one; a list."""
    pairs = web.sights.pairs()
    walks = []
    for look, other in pairs + [(far, near) for near, far in pairs]:
        there = web.walk(0, look, False)
        # Where an even walk leads to the one look, an odd one leads to the other.
        if there is not None:
            walks.append(there[::-1] + web.walk(0, other, True)[1:])
    return walks


def sewn_reason(web):
    """The reason "sewn" of a walk over look 0; None if there is none."""
    # Where each of these walks sews what it should, any two odd walks from one look to another sew the same matrix:
    # each one can be made of such walks and of steps gone on and back.
    for walk in ways(web):
        if sewn(web, walk) != web.seen_matrix(walk[0], walk[-1]):
            return ("sewn", walk)
    return None


def agrees(web):
    """A reason against the web; None if there is none."""
    why = span_reason(web)
    if why is None:
        why = sewn_reason(web)
    if why is None and web.ringed:
        # Without the reasons before, what is sewn from a look back to itself is symmetric, and one look is enough.
        walk = web.walk(0, 0, True)
        why = None if positive(sewn(web, walk)) else ("below", walk)
    return why


def judge_founded(web):
    """Refuse a web that has no worlds."""
    why = agrees(web)
    if why is not None:
        raise Unfounded(why)


def far_sorts(chances, sorts, told):
    """The chances of a far look in each sort, by those of a near one and the told matrix of the two; a list."""
    places = first_rows(turned(sorts))
    solved = multiply(inverse(turned(columns_at(sorts, places))), rows_at(told, places))
    return [[over(entry, chance) for entry in row] for row, chance in zip(solved, chances)]


def world_from(web, chances, sorts):
    """The World of the web with these chances, and with these chances of the answers of look 0 in each sort."""
    near = web.walk(0, 0, False)[1]
    far = far_sorts(chances, sorts, told_matrix(web, 0, near))
    looks = [sorts]
    for look in range(1, len(web.sights.sizes)):
        told = told_matrix(web, 0, look)
        if told is not None:
            looks.append(far_sorts(chances, sorts, told))
        else:
            looks.append(far_sorts(chances, far, told_matrix(web, near, look)))
    return World(chances, [[look_sorts[sort] for look_sorts in looks] for sort in range(len(chances))])


def first_sorts(web, chances):
    """Chances of the answers of look 0 in each sort that a world of a sided web with these chances can have, a list."""
    singles = web.sights.singles[0]
    near = web.walk(0, 0, False)[1]
    # Given an answer of a look seen with it, look 0 has chances that are a mean of its chances in the sorts.
    rows = [singles] + [[over(entry, single) for entry in row]
                        for row, single in zip(web.seen_matrix(near, 0), web.sights.singles[near])]
    sorts = [rows[place] for place in first_rows(rows)[1:]]
    # The last sort takes what the others leave of the singles.
    left = [over(minus(single, weighted(chances[:-1], column)), chances[-1])
            for single, column in zip(singles, turned(sorts))]
    return sorts + [left]


def found(web, chances):
    """A World of a sided web with these chances."""
    judged = chances_of(chances)
    if len(judged) != web.rank:
        raise BadChances()
    judge_sided(web)
    judge_founded(web)
    return world_from(web, judged, first_sorts(web, judged))


def form_at(form, numbers, others):
    """The value of a form, a symmetric matrix, at two lists of numbers."""
    return weighted([weighted(row, others) for row in form], numbers)


def moved_by(form, numbers, taken, amount):
    """The numbers less the taken ones times an amount over the value of the form at the taken ones, a list."""
    share = over(amount, form_at(form, taken, taken))
    return [minus(number, times(share, other)) for number, other in zip(numbers, taken)]


def square_basis(form, first):
    """Lists of numbers, the first one given, that are pairwise 0 in a positive form; as many as the form has rows."""
    basis = [first]
    many = len(form)
    for place in range(many):
        rest = [(1, 1) if index == place else (0, 1) for index in range(many)]
        for taken in basis:
            rest = moved_by(form, rest, taken, form_at(form, taken, rest))
        if any([number != (0, 1) for number in rest]):
            basis.append(rest)
    return basis


def leaning_basis(form, first):
    """As many lists, pairwise 0 in a positive form, none of them 0 with the first one."""
    left = first
    basis = []
    # Each further list and what is left of the first one are turned into their sum and another one, 0 with it.
    for taken in square_basis(form, first)[1:]:
        basis.append(moved_by(form, left, taken, minus(0, form_at(form, taken, taken))))
        left = moved_by(form, left, taken, form_at(form, left, left))
    return basis + [left]


def found_ringed(web):
    """A World of a ringed web."""
    judge_ringed(web)
    judge_founded(web)
    told = told_matrix(web, 0, 0)
    places = first_rows(told)
    form = cut_out(told, places, places)
    singles = [[web.sights.singles[0][place]] for place in places]
    # With these numbers the answers of look 0 sum to 1 in each sort.
    ones = [row[0] for row in multiply(inverse(form), singles)]
    basis = leaning_basis(form, ones)
    chances = [over(1, form_at(form, numbers, numbers)) for numbers in basis]
    sorts = [[weighted([row[place] for place in places], numbers) for row in told] for numbers in basis]
    return world_from(web, chances, sorts)


def is_of(web, world):
    """Whether the World is a world of the web."""
    if len(world) != web.rank or world.sizes != web.sights.sizes:
        return False
    # Each look is in a seen pair, and its table tells the singles.
    return all([world.made(pair) == web.sights.table(pair) for pair in web.sights.pairs()])
