"""Numbers and ratios. A ratio is a tuple (top, bottom) in lowest terms, bottom at least 1."""

from math import gcd, isqrt, lcm

from hiddensorts.errors import BadNumber, ByZero

DIGITS = "0123456789"


def is_int(value):
    """Whether a value of any kind is an integer; True and False are none."""
    return isinstance(value, int) and not isinstance(value, bool)


def is_list(value):
    """Whether a value may stand for a list: a tuple may, too."""
    return isinstance(value, (list, tuple))


def is_number(value):
    """Whether a value of any kind is a number: an integer, or a pair of integers with bottom at least 1."""
    if not is_list(value):
        return is_int(value)
    return len(value) == 2 and is_int(value[0]) and is_int(value[1]) and value[1] >= 1


def as_ratio(value):
    """The ratio equal to a number."""
    if not is_number(value):
        raise BadNumber()
    if is_int(value):
        return (value, 1)
    shared = gcd(value[0], value[1])
    return (value[0] // shared, value[1] // shared)


def as_ratios(numbers):
    """The ratios equal to the numbers of a list, a list."""
    if not is_list(numbers):
        raise BadNumber()
    return [as_ratio(number) for number in numbers]


def plus(a, b):
    """The ratio a + b."""
    top, bottom = as_ratio(a)
    other_top, other_bottom = as_ratio(b)
    return as_ratio((top * other_bottom + other_top * bottom, bottom * other_bottom))


def minus(a, b):
    """The ratio a - b."""
    top, bottom = as_ratio(a)
    other_top, other_bottom = as_ratio(b)
    return as_ratio((top * other_bottom - other_top * bottom, bottom * other_bottom))


def times(a, b):
    """The ratio a times b."""
    top, bottom = as_ratio(a)
    other_top, other_bottom = as_ratio(b)
    return as_ratio((top * other_top, bottom * other_bottom))


def negative(a):
    """The ratio -a."""
    top, bottom = as_ratio(a)
    return (-top, bottom)


def over(a, b):
    """The ratio a / b."""
    top, bottom = as_ratio(a)
    other_top, other_bottom = as_ratio(b)
    if other_top == 0:
        raise ByZero()
    if other_top < 0:
        return as_ratio((-top * other_bottom, -bottom * other_top))
    return as_ratio((top * other_bottom, bottom * other_top))


def sign_of(a):
    """The sign of a number: -1, 0 or 1."""
    top = as_ratio(a)[0]
    if top == 0:
        return 0
    return 1 if top > 0 else -1


def below(a, b):
    """Whether a is less than b."""
    top, bottom = as_ratio(a)
    other_top, other_bottom = as_ratio(b)
    return top * other_bottom < other_top * bottom


def shared_bottom(ratios):
    """The least integer above 0 that each bottom of a list of ratios divides."""
    bottom = 1
    for ratio in ratios:
        bottom = lcm(bottom, ratio[1])
    return bottom


def total(numbers):
    """The sum of a list of numbers."""
    ratios = as_ratios(numbers)
    bottom = shared_bottom(ratios)
    return as_ratio((sum([ratio[0] * (bottom // ratio[1]) for ratio in ratios]), bottom))


def product_of(numbers):
    """The product of a list of numbers; 1 for the empty list."""
    top = 1
    bottom = 1
    for ratio in as_ratios(numbers):
        top = top * ratio[0]
        bottom = bottom * ratio[1]
    return as_ratio((top, bottom))


def weighted(weights, values):
    """The sum of the values, each times its weight."""
    return total([times(weight, value) for weight, value in zip(weights, values)])


def least(numbers):
    """The least of a list of numbers that is not empty."""
    ratios = as_ratios(numbers)
    if not ratios:
        raise BadNumber()
    found = ratios[0]
    for ratio in ratios:
        if below(ratio, found):
            found = ratio
    return found


def greatest(numbers):
    """The greatest of a list of numbers that is not empty."""
    return negative(least([negative(ratio) for ratio in as_ratios(numbers)]))


def root_of(a):
    """The root of a number that is a square; None if it is no square."""
    top, bottom = as_ratio(a)
    if top < 0:
        return None
    # In lowest terms a ratio is a square exactly if its top and its bottom both are.
    root = (isqrt(top), isqrt(bottom))
    if (root[0] * root[0], root[1] * root[1]) != (top, bottom):
        return None
    return root


def shown(a):
    """The text of a number: "top/bottom", or "top" if the bottom is 1."""
    top, bottom = as_ratio(a)
    return str(top) if bottom == 1 else f"{top}/{bottom}"


def are_digits(text):
    """Whether a text is one or more of the digits 0 to 9."""
    return text != "" and all([letter in DIGITS for letter in text])


def whole_of(digits):
    """The integer that one or more digits tell, however many they are."""
    whole = 0
    # Piece by piece, as Python refuses to read very many digits at once.
    for start in range(0, len(digits), 60):
        piece = digits[start:start + 60]
        whole = whole * 10 ** (len(piece) % 65) + int(piece)
    return whole


def ratio_of(text):
    """The ratio that a text tells: an optional minus sign, digits, then nothing or "/" and digits not all 0."""
    if not isinstance(text, str):
        raise BadNumber()
    top, slash, bottom = text.removeprefix("-").partition("/")
    if slash == "":
        bottom = "1"
    if not are_digits(top) or not are_digits(bottom):
        raise BadNumber()
    ratio = as_ratio((whole_of(top), whole_of(bottom)))
    return negative(ratio) if text.startswith("-") else ratio
