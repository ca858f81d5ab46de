"""Exact fractions: pairs (top, bottom) in lowest terms, with a bottom of at least 1."""

from math import gcd

from surecues.errors import NumberError
from surecues.limits import DIGITS

ZERO = (0, 1)
ONE = (1, 1)
TWO = (2, 1)


def number(top, bottom):
    """The number that is top / bottom."""
    if bottom == 0:
        raise NumberError()
    if bottom < 0:
        top, bottom = -top, -bottom
    common = gcd(top, bottom)
    return top // common, bottom // common


def plus(first, second):
    """The sum of two numbers."""
    return number(first[0] * second[1] + second[0] * first[1], first[1] * second[1])


def minus(first, second):
    """The first number less the second one."""
    return number(first[0] * second[1] - second[0] * first[1], first[1] * second[1])


def times(first, second):
    """The product of two numbers."""
    return number(first[0] * second[0], first[1] * second[1])


def over(first, second):
    """The first number divided by the second one, which must not be 0."""
    return number(first[0] * second[1], first[1] * second[0])


def negative(value):
    """The number with the other sign."""
    return -value[0], value[1]


def compare(first, second):
    """-1, 0 or 1: whether the first number is less than, equal to or greater than the second."""
    left = first[0] * second[1]
    right = second[0] * first[1]
    if left < right:
        return -1
    if left > right:
        return 1
    return 0


def format_number(value):
    """The way in which a number is written."""
    top, bottom = value
    sign = "-" if top < 0 else ""
    below = "" if bottom == 1 else "/" + _in_digits(bottom)
    return sign + _in_digits(abs(top)) + below


def read_number(word):
    """The number that a word writes as format_number does, or None if it writes none."""
    above, slash, below = word.removeprefix("-").partition("/")
    if not slash:
        below = "1"
    if not _is_whole(above) or not _is_whole(below) or int(below) == 0:
        return None
    top = -int(above) if word.startswith("-") else int(above)
    value = number(top, int(below))
    # Each number is written in one way only; this finds zeros in front, -0 and the like.
    return value if format_number(value) == word else None


def _is_whole(digits):
    """Tells whether these are digits, and not too many."""
    return digits.isdecimal() and len(digits) <= DIGITS


def _in_digits(whole):
    """The digits of an integer of at least 0."""
    # Python refuses to write very long integers at once, so they are written block by block.
    block = 10 ** 64
    parts = []
    while whole >= block:
        whole, low = divmod(whole, block)
        parts.append(str(low).zfill(64))
    parts.append(str(whole))
    return "".join(reversed(parts))
