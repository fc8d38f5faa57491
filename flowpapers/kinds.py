"""Which kind a value is of, and values brought into the form in which they are told."""

from flowpapers.errors import BadNumber
from flowpapers.ratios import is_integer, is_ratio, told


def is_from(value, low, high):
    """Whether any value is an integer from low to high."""
    return is_integer(value) and low <= value <= high


def is_row(value):
    """Whether any value is a tuple or list of ratios."""
    return isinstance(value, (tuple, list)) and all([is_ratio(number) for number in value])


def is_row_of(value, many):
    """Whether any value is a tuple or list of so many ratios."""
    return is_row(value) and len(value) == many


def is_place(value):
    """Whether any value is a pair of ratios."""
    return is_row_of(value, 2)


def pair_of(value):
    """A ratio as it is told."""
    return told(value, "ratio")


def place_of(value):
    """A pair of ratios as it is told."""
    return pair_of(value[0]), pair_of(value[1])


def is_strict_ratio(value):
    """Whether any value is an integer or a tuple that is a ratio.

    Beside a sign, and where a function judges a value, lists do not stand for tuples.
    """
    return is_ratio(value) and not isinstance(value, list)


def is_strict_place(value):
    """Whether any value is a tuple of two ratios, both as where a function judges a value."""
    return isinstance(value, tuple) and len(value) == 2 and all([is_strict_ratio(number) for number in value])


def check_bits(bits):
    """BadNumber("bits", bits) for what is no number of bits."""
    if not is_from(bits, 0, 60):
        raise BadNumber("bits", bits)


def held(value):
    """A value as an object keeps it: just as it is, but a list as a tuple."""
    return tuple(value) if isinstance(value, list) else value
