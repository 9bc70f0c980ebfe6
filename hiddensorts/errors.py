"""The errors of hiddensorts. Each one keeps its arguments as attributes."""


def kept(value):
    """The value with each list in it as a tuple, so that who changes it later does not change the error."""
    if isinstance(value, (list, tuple)):
        return tuple([kept(entry) for entry in value])
    return value


class SortsError(Exception):
    """The base class of all errors of hiddensorts."""


# Stage 1: sights

class BadNumber(SortsError):
    """What should be a number is none."""


class ByZero(SortsError):
    """A division by 0."""


class BadMatrix(SortsError):
    """What should be a matrix is none, or has the wrong form."""


class BadSize(SortsError):
    """What should be sizes, or parts of answers, is none."""


class BadLot(SortsError):
    """A list is no lot, or no asking; -1 where no single place is wrong."""

    def __init__(self, place):
        self.place = place


class BadSpot(SortsError):
    """What should be a spot, or a row, is none."""


class BadTable(SortsError):
    """Entries make no table; -1 where no single place is wrong."""

    def __init__(self, place):
        self.place = place


class BadSingle(SortsError):
    """Singles of a look are none; -1 where no single look is wrong."""

    def __init__(self, look):
        self.look = look


class Disagrees(SortsError):
    """A seen lot tells another table than an earlier one."""

    def __init__(self, lot, other):
        self.lot = kept(lot)
        self.other = kept(other)


class NotSeen(SortsError):
    """No seen lot tells the table of this lot."""

    def __init__(self, lot):
        self.lot = kept(lot)


class NeverMet(SortsError):
    """A spot, or a row, has no chance that can be divided by."""

    def __init__(self, spot):
        self.spot = kept(spot)


class OtherSizes(SortsError):
    """Two tables have unlike sizes."""


class BadText(SortsError):
    """A line of a text is refused; 0 stands for the whole text."""

    def __init__(self, line):
        self.line = line


# Stage 2: sorts

class BadSort(SortsError):
    """What should be a sort, or an order of sorts, is none."""


class BadChances(SortsError):
    """What should be the chances of sorts are none, or other ones."""


class BadWorld(SortsError):
    """The sort of this number is refused; -1 where no single one is wrong."""

    def __init__(self, which, look):
        self.which = which
        self.look = look


class NotTwo(SortsError):
    """A world of two sorts is wanted."""


class NotFair(SortsError):
    """A fair world, or fair chances, are wanted."""


# Stage 3: walks

class BadLook(SortsError):
    """What should be a look is none."""


class BadPiece(SortsError):
    """What should be the number of a piece is none."""


class BadWalk(SortsError):
    """A list is no walk; -1 where no single place is wrong."""

    def __init__(self, place):
        self.place = place


class Clash(SortsError):
    """The pairs do not agree."""

    def __init__(self, reason):
        self.reason = kept(reason)


class OtherPiece(SortsError):
    """A look is not in the piece."""


class IsRinged(SortsError):
    """A sided piece is wanted."""


class IsTold(SortsError):
    """A table that is not told is wanted."""


class NeedsRoot(SortsError):
    """Only a real world is there: this number is no square."""

    def __init__(self, number):
        self.number = kept(number)


class NeedsRoots(SortsError):
    """Only a real world is there: two ringed pieces do not go together."""

    def __init__(self, x, y):
        self.x = kept(x)
        self.y = kept(y)


class NotLinked(SortsError):
    """A linked pair is wanted."""


# Stages 4 and 5: fair and open

class NoFair(SortsError):
    """The told link of two spots is below -1."""

    def __init__(self, x, y):
        self.x = kept(x)
        self.y = kept(y)


class Outside(SortsError):
    """A place lies outside of a frame, or of its ends."""


class NotBehind(SortsError):
    """The world is none of the frame's piece."""


class OtherSide(SortsError):
    """Two looks are of unlike sides, or of one, against what is wanted."""


class OneSide(SortsError):
    """All three spots are of one side."""


class NotRinged(SortsError):
    """A ringed piece is wanted."""


# Stages 6 and 7: leans and telling

class NoThree(SortsError):
    """The piece has no seen lot with three of its looks."""


class Turned(SortsError):
    """The bend of a spot is below 0."""

    def __init__(self, x):
        self.x = kept(x)


class Unlike(SortsError):
    """Two balances differ."""


class BadDrawing(SortsError):
    """A matrix is no drawing; -1 where no single column is wrong."""

    def __init__(self, column):
        self.column = column


class BadCurve(SortsError):
    """Weights and tilts make no curve."""


# Stages 8 and 9: stand-ins and even webs

class BadStakes(SortsError):
    """What should be stakes is none, or has another width."""


class NotFull(SortsError):
    """A full lot is wanted."""


class NotJoined(SortsError):
    """No walk of seen pairs leads to this look."""

    def __init__(self, look):
        self.look = look


class NotEven(SortsError):
    """The matrix of a seen pair has another rank than wanted."""

    def __init__(self, pair):
        self.pair = kept(pair)


class Unfounded(SortsError):
    """The web has no worlds."""

    def __init__(self, reason):
        self.reason = kept(reason)


class BadChange(SortsError):
    """A matrix is no change of the world."""


class NotOf(SortsError):
    """The world is none of the web."""


# Stage 10: the desk

class NoDeed(SortsError):
    """There is no deed to take back."""


class IsSeen(SortsError):
    """The pair was seen already."""


class HasThree(SortsError):
    """A seen lot has three looks of one piece."""


class ManyPieces(SortsError):
    """There are more pieces than can be answered for."""


class NoPlan(SortsError):
    """No plan exists."""
