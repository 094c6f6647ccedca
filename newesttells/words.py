"""Names, numbers and ratios, told apart from any other values."""

from math import gcd

LONGEST_NAME = 6
PIECE_DIGITS = 64
PIECE = 10 ** 64


def is_name(value):
    """Whether any value is a name: 1 to 6 lowercase letters."""
    if not isinstance(value, str) or not 1 <= len(value) <= LONGEST_NAME:
        return False
    return all(["a" <= letter <= "z" for letter in value])


def is_integer(value):
    """Whether any value is a number; True and False are none, although Python counts them as integers."""
    return isinstance(value, int) and not isinstance(value, bool)


def is_number(value, least, most):
    """Whether any value is a number from least to most."""
    return is_integer(value) and least <= value <= most


def is_ratio(value):
    """Whether any value is a ratio: a tuple (top, bottom) in lowest terms, with a bottom from 1 on."""
    if not isinstance(value, tuple) or len(value) != 2:
        return False
    top, bottom = value
    if not is_integer(top) or not is_integer(bottom):
        return False
    return bottom >= 1 and gcd(top, bottom) == 1


def digits_of(number):
    """The digits of a number from 0 on; piece by piece, because Python refuses to write very long numbers at once."""
    pieces = []
    while number >= PIECE:
        pieces.append(str(number % PIECE).zfill(PIECE_DIGITS))
        number = number // PIECE
    pieces.append(str(number))
    return "".join(pieces[::-1])
