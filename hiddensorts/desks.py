"""Desks, which take sights one by one, and the news that each brings."""

from hiddensorts.checks import kind_in
from hiddensorts.errors import NoDeed, NotFair
from hiddensorts.frames import frame_of
from hiddensorts.givens import across_link
from hiddensorts.leans import Leans
from hiddensorts.lots import all_rows
from hiddensorts.ratios import greatest, least
from hiddensorts.sights import Sights, pairs_of
from hiddensorts.standing import balance_range, stand
from hiddensorts.threes import holds_three
from hiddensorts.tilts import Tilts, linked_table
from hiddensorts.webs import Web, look_of


def free_table(sights, pair):
    """The Table of two looks, ascending, or of one asked again, whose links all are 0."""
    return linked_table(sights, pair, [(0, 1)] * len(all_rows(pair, sights.sizes)))


def across_table(sights, leans, pair):
    """The Table of two looks of two pieces that both have leans; None if their balance is 1/4."""
    links = [across_link(leans[0], leans[1], (pair[0], answer), (pair[1], far))
             for answer, far in all_rows(pair, sights.sizes)]
    return None if links[0] is None else linked_table(sights, pair, links)


class Board:
    """What stands behind sights, and the tables of two looks that they tell."""

    def __init__(self, sights):
        self.sights = sights
        self.says = stand(sights)[0]
        self.web = Web(sights)
        self.tables = self._told_tables() if self.says != "none" else {}

    def _told_tables(self):
        """The told Tables of two looks, or of one asked again, a dict by the pairs of looks, ascending."""
        pieces = [Tilts(self.sights, number) for number in range(len(self.web.pieces))]
        leans = [Leans(self.sights, number) if holds_three(self.sights, piece) else None
                 for number, piece in enumerate(self.web.pieces)]
        found = {}
        many = len(self.sights.sizes)
        for pair in [(look, other) for look in range(many) for other in range(look, many)]:
            table = self._told_table(pieces, leans, pair)
            if table is not None:
                found[pair] = table
        return found

    def _told_table(self, pieces, leans, pair):
        """The told Table of a pair of looks; None if it is not told."""
        if pair[0] != pair[1] and self.sights.sees(pair):
            return self.sights.table(pair)
        if pair[0] in self.web.still or pair[1] in self.web.still:
            return free_table(self.sights, pair)
        number, other = [self.web.piece_of(look) for look in pair]
        if -1 in (number, other):
            return None
        if number == other:
            return pieces[number].told_table(pair[0], pair[1])
        if leans[number] is None or leans[other] is None:
            return None
        return across_table(self.sights, (leans[number], leans[other]), pair)

    def balances(self):
        """The ends of the balance over all fair real worlds, if there are some; None if there is no piece."""
        ranges = [balance_range(self.sights, number) for number in range(len(self.web.pieces))]
        if not ranges:
            return None
        return (greatest([low for low, high in ranges]), least([high for low, high in ranges]))


class News:
    """What a deed brings."""

    def __init__(self, lot, behind, kinds, opened_now, narrower):
        self.lot = lot
        self.behind = behind
        self.kinds = kinds
        self.opened_now = opened_now
        self.narrower = narrower

    def __eq__(self, other):
        return (isinstance(other, News) and self.lot == other.lot and self.behind == other.behind
                and self.kinds == other.kinds and self.opened_now == other.opened_now
                and self.narrower == other.narrower)


def kinds_of(ahead, lot):
    """The pairs of looks of a lot that were not seen together, each with its kind, a tuple."""
    return tuple([pair + (kind_in(ahead.web, pair),) for pair in pairs_of(lot) if not ahead.sights.sees(pair)])


def is_narrower(ahead, behind):
    """Whether less is left open behind a deed: another word, or another range of the balance."""
    if ahead.says != behind.says:
        return True
    return behind.says == "fair" and ahead.balances() != behind.balances()


def news_of(ahead, behind):
    """The News of a deed that puts one lot more to the sights."""
    lot = behind.sights.lots[-1]
    opened = tuple([pair for pair in behind.tables if pair not in ahead.tables])
    return News(lot, behind.says, kinds_of(ahead, lot), opened, is_narrower(ahead, behind))


class Desk:
    """Fixed singles, and the lots that were seen so far."""

    def __init__(self, singles, *, seen=()):
        self._take(Board(Sights(singles, seen=seen)))

    def _take(self, board):
        """Let the board be what the desk tells."""
        self._board = board
        self._sights = board.sights
        self._word = board.says

    @property
    def word(self):
        """What stands behind the sights so far: "none", "loose" or "fair"."""
        return self._word

    @property
    def so_far(self):
        """The Sights so far."""
        return self._sights

    def __len__(self):
        return len(self._sights.lots)

    def __iter__(self):
        return iter(self._sights.lots)

    def see(self, lot, entries):
        """Put one seen lot more to the sights, and tell its News."""
        behind = Board(self._sights.adding(lot, entries))
        news = news_of(self._board, behind)
        self._take(behind)
        return news

    def tried(self, lot, entries):
        """The News that `see` would tell."""
        return news_of(self._board, Board(self._sights.adding(lot, entries)))

    def back(self):
        """Take the last deed back; its lot."""
        lots = self._sights.lots
        if not lots:
            raise NoDeed()
        seen = [(lot, self._sights.table(lot).entries) for lot in lots[:-1]]
        self._take(Board(Sights(self._sights.singles, seen=seen)))
        return lots[-1]

    def frame(self, number):
        """The frame of a piece of the sights so far."""
        return frame_of(self._sights, number)

    def told(self, look, other):
        """The told Table of two looks, or of one asked again; None if it is not told."""
        pair = tuple(sorted([look_of(look, self._sights), look_of(other, self._sights)]))
        return self._board.tables.get(pair)

    def balances(self):
        """The ends of the balance over all fair real worlds behind the sights so far; None if there is no piece."""
        if self._word != "fair":
            raise NotFair()
        return self._board.balances()
