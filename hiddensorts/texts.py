"""The text of sights."""

from hiddensorts.errors import BadSingle, BadText, SortsError
from hiddensorts.ratios import are_digits, ratio_of, shown, whole_of
from hiddensorts.sights import Sights


def text_line(head, numbers):
    """A line of a text: the words of the head, a colon, ratios, a line feed."""
    return " ".join(head) + ": " + " ".join([shown(number) for number in numbers]) + "\n"


def sights_text(sights):
    """The text of the sights."""
    lines = [text_line(["look", str(look)], entries) for look, entries in enumerate(sights.singles)]
    for lot in sights.lots:
        head = ["seen"] + [str(look) for look in lot]
        lines.append(text_line(head, sights.table(lot).entries))
    return "".join(lines)


def is_look_word(word):
    """Whether a word is digits without leading zeros."""
    return are_digits(word) and (word == "0" or not word.startswith("0"))


def colon_place(words):
    """The index of the first word that ends in a colon; None if there is none."""
    for place, word in enumerate(words):
        if word.endswith(":"):
            return place
    return None


def with_look(sights, looks, numbers):
    """The Sights with one look more; None if the line has another form."""
    singles = [] if sights is None else list(sights.singles)
    if looks != [str(len(singles))] or (sights is not None and sights.lots):
        return None
    return Sights(singles + [[ratio_of(word) for word in numbers]])


def with_lot(sights, looks, numbers):
    """The Sights with one seen lot more; None if the line has another form."""
    if not all([is_look_word(word) for word in looks]):
        return None
    entries = [ratio_of(word) for word in numbers]
    if sights is None:
        # Sights without looks are refused, whatever is seen.
        raise BadSingle(-1)
    return sights.adding([whole_of(word) for word in looks], entries)


def with_line(sights, line):
    """The Sights so far (None if no line was read) with one line more; None if the line has another form."""
    words = line.split(" ")
    place = colon_place(words)
    if place is None:
        return None
    looks = words[1:place] + [words[place][:-1]]
    if words[0] == "look":
        return with_look(sights, looks, words[place + 1:])
    if words[0] == "seen":
        return with_lot(sights, looks, words[place + 1:])
    return None


def sights_from(text):
    """The Sights that a text tells."""
    if not isinstance(text, str) or not text.endswith("\n"):
        raise BadText(0)
    sights = None
    for number, line in enumerate(text.split("\n")[:-1], start=1):
        try:
            sights = with_line(sights, line)
        except SortsError as error:
            raise BadText(number) from error
        if sights is None:
            raise BadText(number)
    return sights
