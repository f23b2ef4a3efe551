"""Integers and names, binomials, pentagonal numbers, and the list texts of tuples of integers."""

from math import comb, isqrt

from hookstrips.errors import InvalidNumber, InvalidOperation, ParseError

MAX_NAME = 8
MAX_TOP = 1000
MAX_LISTED = 60
MAX_TEXT = 4000
MAX_MODULUS = 1000
MAX_DIGITS = 60
MOST_INTEGER = 10 ** 60 - 1
LETTERS = "abcdefghijklmnopqrstuvwxyz"
DIGITS = "0123456789"


def is_integer(value):
    """Whether the value is an integer of at most sixty digits."""
    # bool is a class below int, but True and False are no integers here.
    if isinstance(value, bool) or not isinstance(value, int):
        return False
    return -MOST_INTEGER <= value <= MOST_INTEGER


def is_name(value):
    """Whether the value is a string of one to eight letters a to z."""
    if not isinstance(value, str) or not 1 <= len(value) <= MAX_NAME:
        return False
    return all([letter in LETTERS for letter in value])


def is_between(value, least, most):
    """Whether the value is an integer from least to most."""
    return is_integer(value) and least <= value <= most


def are_integers(value, most):
    """Whether the value is a tuple of at most so many integers."""
    if not isinstance(value, tuple) or len(value) > most:
        return False
    return all([is_integer(number) for number in value])


def check_integer(value):
    """Raise InvalidNumber unless the value is an integer."""
    if not is_integer(value):
        raise InvalidNumber(value)


def check_between(value, least, most):
    """Raise InvalidNumber unless the value is an integer from least to most."""
    if not is_between(value, least, most):
        raise InvalidNumber(value)


def binomial(top, low):
    """How many lots of `low` things `top` things have."""
    check_between(top, 0, MAX_TOP)
    check_integer(low)
    if low < 0 or low > top:
        return 0
    return comb(top, low)


def binomials(top):
    """The tuple of the binomials of `top` and 0, 1, .., `top`."""
    check_between(top, 0, MAX_TOP)
    return tuple([comb(top, low) for low in range(top + 1)])


def pentagonal(number):
    """The pentagonal number of an integer of any sign."""
    check_integer(number)
    return number * (3 * number - 1) // 2


def pentagonal_root(value):
    """The integer whose pentagonal number the value is, or None."""
    check_integer(value)
    if value < 0:
        return None
    # u (3 u - 1) / 2 = v means (6 u - 1) ** 2 = 24 v + 1, and 6 u - 1 can have either sign.
    square = 24 * value + 1
    side = isqrt(square)
    if side * side != square:
        return None
    if (side + 1) % 6 == 0:
        return (side + 1) // 6
    return (1 - side) // 6


def modulo_of(number, modulus):
    """The remainder of the number, from 0 to the modulus less 1."""
    check_integer(number)
    check_between(modulus, 1, MAX_MODULUS)
    return number % modulus


def list_text(numbers):
    """The list text of a tuple of integers."""
    if not are_integers(numbers, MAX_LISTED):
        raise InvalidOperation("not a tuple of at most 60 integers")
    if numbers == ():
        return "-"
    return " ".join([str(number) for number in numbers])


def numbers_of_text(text):
    """The tuple of integers that has this list text."""
    if not isinstance(text, str) or len(text) > MAX_TEXT:
        raise ParseError(0)
    if text == "-":
        return ()
    numbers = []
    spot = 0
    for piece in text.split(" "):
        if len(numbers) == MAX_LISTED or not _is_integer_text(piece):
            raise ParseError(spot)
        numbers.append(int(piece))
        spot = spot + len(piece) + 1
    return tuple(numbers)


def _is_integer_text(piece):
    """Whether the piece is what a list text has for an integer."""
    digits = piece[1:] if piece.startswith("-") else piece
    if not 1 <= len(digits) <= MAX_DIGITS:
        return False
    # int() alone would also take blanks, a plus, underscores and zeros ahead.
    if not all([digit in DIGITS for digit in digits]):
        return False
    return piece == "0" or digits[0] != "0"
