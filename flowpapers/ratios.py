"""Ratios: integers, or pairs (top, bottom) of integers with bottom above 0."""

from math import gcd

from flowpapers.errors import BadNumber


def is_ratio(value):
    """Whether any value is an integer, or a tuple or list of two integers, the second one above 0."""
    if is_integer(value):
        return True
    if not isinstance(value, (tuple, list)) or len(value) != 2:
        return False
    return is_integer(value[0]) and is_integer(value[1]) and value[1] > 0


def told(value, what):
    """The ratio as a pair in lowest terms; BadNumber(what, value) for what is no ratio."""
    top, bottom = _parts(value, what)
    return _lowest(top, bottom)


def plus(one, other):
    """The sum of two ratios."""
    top, bottom = _parts(one, "ratio")
    other_top, other_bottom = _parts(other, "ratio")
    return _lowest(top * other_bottom + other_top * bottom, bottom * other_bottom)


def minus(one, other):
    """One ratio less the other."""
    top, bottom = _parts(one, "ratio")
    other_top, other_bottom = _parts(other, "ratio")
    return _lowest(top * other_bottom - other_top * bottom, bottom * other_bottom)


def times(one, other):
    """The product of two ratios."""
    top, bottom = _parts(one, "ratio")
    other_top, other_bottom = _parts(other, "ratio")
    return _lowest(top * other_top, bottom * other_bottom)


def share(one, other):
    """One ratio divided by the other; BadNumber("divisor", other) if this is 0."""
    top, bottom = _parts(one, "ratio")
    other_top, other_bottom = _parts(other, "ratio")
    if other_top == 0:
        raise BadNumber("divisor", other)
    if other_top < 0:
        # The sign goes above, since the bottom of a ratio is above 0.
        return _lowest(-top * other_bottom, bottom * -other_top)
    return _lowest(top * other_bottom, bottom * other_top)


def lower(one, other):
    """Whether one ratio is below the other."""
    top, bottom = _parts(one, "ratio")
    other_top, other_bottom = _parts(other, "ratio")
    return top * other_bottom < other_top * bottom


def floor_of(value):
    """The greatest integer that is not above a ratio."""
    top, bottom = _parts(value, "ratio")
    return top // bottom


def ratio_text(value):
    """The text of a ratio in lowest terms, such as -7/2 or 3."""
    top, bottom = told(value, "ratio")
    sign = "-" if top < 0 else ""
    text = sign + _digits(abs(top))
    if bottom == 1:
        return text
    return text + "/" + _digits(bottom)


def is_integer(value):
    """Whether any value is an int that is not a bool."""
    return isinstance(value, int) and not isinstance(value, bool)


def _parts(value, what):
    """The top and the bottom of a ratio, in the terms in which it was passed."""
    if not is_ratio(value):
        raise BadNumber(what, value)
    if isinstance(value, int):
        return value, 1
    return value[0], value[1]


def _lowest(top, bottom):
    """The pair in lowest terms; bottom is above 0."""
    divisor = gcd(top, bottom)
    return top // divisor, bottom // divisor


def _digits(number):
    """The digits of an integer from 0 on."""
    # In pieces, because Python refuses str of an integer with more than some thousand digits.
    piece = 10 ** 64
    texts = []
    while number >= piece:
        number, low = divmod(number, piece)
        texts.append(str(low).zfill(64))
    texts.append(str(number))
    return "".join(texts[::-1])
