"""The order of numbers and of markers, and numbers that lie between others."""

from math import lcm

from surecues.numbers import compare, number


def ascending(values):
    """The numbers in ascending order, each once."""
    bottom = _common_bottom(values)
    tops = sorted({_top_over(value, bottom) for value in values})
    return [number(top, bottom) for top in tops]


def markers_in_order(markers):
    """The markers in ascending order of the position, then of the name, each once."""
    bottom = _common_bottom([position for position, _ in markers])
    rows = sorted({(_top_over(position, bottom), name) for position, name in markers})
    return tuple([(number(top, bottom), name) for top, name in rows])


def between(values, first, second):
    """Those of the numbers that are greater than the first one and less than the second one."""
    return [value for value in values if compare(first, value) < 0 and compare(value, second) < 0]


def is_within(value, least, greatest):
    """Tells whether a number is at least the one and at most the other."""
    return compare(least, value) <= 0 and compare(value, greatest) <= 0


def all_within(span, low, high):
    """Whether all numbers of a span lie from low to high: True, False if none does, or None."""
    least, greatest = span
    if is_within(least, low, high) and is_within(greatest, low, high):
        return True
    if compare(greatest, low) < 0 or compare(least, high) > 0:
        return False
    return None


def _common_bottom(values):
    """A bottom over which all these numbers can be written, so that their tops tell the order."""
    bottom = 1
    for value in values:
        bottom = lcm(bottom, value[1])
    return bottom


def _top_over(value, bottom):
    """The top of a number over a multiple of its bottom."""
    return value[0] * (bottom // value[1])
