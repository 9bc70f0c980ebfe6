"""The fewest pairs that have to be seen until every table of two looks is told."""

from hiddensorts.errors import NoPlan
from hiddensorts.webs import EVEN, Web, steps_by, walks_from


def moving_looks(web):
    """The looks that are not still, a list; NoPlan if there is no plan."""
    looks = [look for look in range(len(web.sights.sizes)) if look not in web.still]
    if len(looks) < 3:
        raise NoPlan()
    for look, other in web.sights.pairs():
        if look in looks and other in looks and other not in web.steps(look):
            raise NoPlan()
    return looks


def starts_of(web, looks):
    """The least look of each piece, and each of these looks that is a loner, ascending, a list."""
    return [look for look in looks
            if web.piece_of(look) == -1 or web.pieces[web.piece_of(look)][0] == look]


def is_ring_seen(web):
    """Whether some piece is ringed."""
    return any([web.is_ringed(number) for number in range(len(web.pieces))])


def to_see(sights):
    """The fewest pairs of a plan, an integer."""
    web = Web(sights)
    starts = starts_of(web, moving_looks(web))
    return len(starts) - 1 + (0 if is_ring_seen(web) else 1)


def ring_pair(web, looks, pairs):
    """Two looks of one side of what the linked pairs and these pairs join, all of these looks; they make a ring."""
    steps = steps_by(web.sights.linked() + pairs, len(web.sights.sizes))
    for look in looks:
        for other, parity in walks_from(look, steps):
            if parity == EVEN and other > look:
                return (look, other)
    return None


def a_plan(sights):
    """A plan with the fewest pairs, a list of pairs, ascending."""
    web = Web(sights)
    looks = moving_looks(web)
    starts = starts_of(web, looks)
    pairs = [(starts[0], start) for start in starts[1:]]
    if not is_ring_seen(web):
        pairs.append(ring_pair(web, looks, pairs))
    return sorted(pairs)
