"""Polynomials of one letter t whose numbers are ratios."""

from math import gcd

from flowpapers.errors import BadNumber, BadRow
from flowpapers.kinds import is_row, is_strict_ratio
from flowpapers.ratios import plus, share, times, told
from flowpapers.wholes import row_product, top_power, whole_row

PRIME = 2305843009213693951


class Poly:
    """The polynomial in t with these numbers for the powers 0, 1, 2, .. in this order."""

    def __init__(self, numbers):
        if not is_row(numbers):
            raise BadRow(numbers)
        pairs = [told(number, "number") for number in numbers]
        degree = top_power([top for top, _ in pairs])
        self.numbers = tuple(pairs[:degree + 1])

    def __eq__(self, other):
        return isinstance(other, Poly) and self.numbers == other.numbers

    def __add__(self, other):
        poly = _beside(other)
        if poly is None:
            return NotImplemented
        return _sum(self, poly)

    def __radd__(self, other):
        poly = _beside(other)
        if poly is None:
            return NotImplemented
        return _sum(poly, self)

    def __sub__(self, other):
        poly = _beside(other)
        if poly is None:
            return NotImplemented
        return _sum(self, -poly)

    def __rsub__(self, other):
        poly = _beside(other)
        if poly is None:
            return NotImplemented
        return _sum(poly, -self)

    def __mul__(self, other):
        poly = _beside(other)
        if poly is None:
            return NotImplemented
        return _product(self, poly)

    def __rmul__(self, other):
        poly = _beside(other)
        if poly is None:
            return NotImplemented
        return _product(poly, self)

    def __neg__(self):
        return Poly([(-top, bottom) for top, bottom in self.numbers])

    def degree(self):
        """The greatest power with a number other than 0, -1 if there is none."""
        return len(self.numbers) - 1

    def at(self, point):
        """The value at a ratio, as a pair; BadNumber("point", point) for what is no ratio."""
        top, bottom = told(point, "point")
        tops, below = whole_row(self.numbers)
        # Each product is taken with a power of the bottom, so that all of them stay integers.
        total, power = 0, 1
        for number in reversed(tops):
            total = total * top + number * power
            power = power * bottom
        return told((total * bottom, below * power), "value")

    def slope(self):
        """The Poly with k times the number of t ** k for the power k - 1."""
        numbers = [times(power, number) for power, number in enumerate(self.numbers)]
        return Poly(numbers[1:])


def divided(one, other):
    """The Polys (quotient, rest): one is quotient * other + rest, the rest of a lower degree than other."""
    if other.degree() == -1:
        raise BadNumber("divisor", 0)
    tops, below = whole_row(one.numbers)
    other_tops, other_below = whole_row(other.numbers)
    quotient, rest, factor = _divided_whole(tops, other_tops)
    divisor = factor * below
    return (
        Poly([share(number * other_below, divisor) for number in quotient]),
        Poly([share(number, divisor) for number in rest]),
    )


def common(one, other):
    """The Poly of the greatest degree that divides both, with the number 1 at its greatest power."""
    found = _common_whole(_shortest(whole_row(one.numbers)[0]), _shortest(whole_row(other.numbers)[0]))
    return Poly([share(number, found[-1]) for number in found])


def _beside(value):
    """The Poly for which a value beside a sign stands, None if it stands for none."""
    if isinstance(value, Poly):
        return value
    if is_strict_ratio(value):
        return Poly((value,))
    return None


def _number(poly, power):
    """The number of t ** power, also above the degree."""
    return poly.numbers[power] if power < len(poly.numbers) else (0, 1)


def _sum(one, other):
    many = max(len(one.numbers), len(other.numbers))
    return Poly([plus(_number(one, power), _number(other, power)) for power in range(many)])


def _product(one, other):
    tops, below = whole_row(one.numbers)
    other_tops, other_below = whole_row(other.numbers)
    return Poly([(number, below * other_below) for number in row_product(tops, other_tops)])


def _divided_whole(tops, others):
    """The rows quotient and rest, and an integer factor: factor * tops is quotient * others + rest.

    All rows are of integers by ascending powers; the last one of others is not 0.
    """
    lead = others[-1]
    quotient, rest, factor = [], list(tops), 1
    while len(rest) >= len(others):
        last = rest.pop()
        divisor = gcd(last, lead)
        scale, part = lead // divisor, last // divisor
        shift = len(rest) + 1 - len(others)
        rest = [scale * number for number in rest]
        for power in range(len(others) - 1):
            rest[shift + power] = rest[shift + power] - part * others[power]
        quotient = [part] + [scale * number for number in quotient]
        factor = factor * scale
    return quotient, rest, factor


def _shortest(tops):
    """The row of integers without zeros at its end, divided by their greatest common divisor."""
    kept = _cut(tops)
    divisor = 0
    for number in kept:
        divisor = gcd(divisor, number)
    return [number // divisor for number in kept]


def _common_whole(tops, others):
    """The row of the greatest degree that divides both rows of integers, each made by _shortest."""
    if not tops:
        return others
    if not others:
        return tops
    if _are_strangers(tops, others):
        return [1]
    # Division by turns would make far longer numbers than the answer has. Instead, the value of the
    # answer at an integer point is sought: it divides the greatest divisor of the values of both rows
    # there. The point is more than twice as large as any zero of one row can be; therefore a row that
    # is read off the digits of this divisor and divides both rows has the greatest degree. If none is
    # read, the values share too much by chance: for all points that are large enough they do not.
    point = 4 * min(_greatest(tops), _greatest(others)) + 64
    while True:
        divisor = gcd(_value_whole(tops, point), _value_whole(others, point))
        found = _shortest(_digits_in(divisor, point))
        if _is_multiple(tops, found) and _is_multiple(others, found):
            return found
        point = point * point


def _are_strangers(tops, others):
    """Whether division by turns, with remainders of integers by a prime alone, comes to a number other than 0.

    Then no row of a degree of 1 or more divides both: its remainders would divide those of both.
    """
    if tops[-1] % PRIME == 0 or others[-1] % PRIME == 0:
        return False
    one, other = [number % PRIME for number in tops], [number % PRIME for number in others]
    while len(other) > 1:
        if len(one) < len(other):
            one, other = other, one
        lead, last, shift = other[-1], one[-1], len(one) - len(other)
        less = [(lead * number - last * further) % PRIME for number, further in zip(one[shift:], other)]
        one = _cut([lead * number % PRIME for number in one[:shift]] + less)
        if len(one) < len(other):
            one, other = other, one
    return len(other) == 1


def _cut(tops):
    """The row without zeros at its end."""
    return tops[:top_power(tops) + 1]


def _greatest(tops):
    return max([abs(number) for number in tops])


def _value_whole(tops, point):
    total = 0
    for number in reversed(tops):
        total = total * point + number
    return total


def _digits_in(number, base):
    """The digits of an integer above 0, from the last one on, each from -base / 2 to base / 2."""
    digits = []
    while number != 0:
        digit = number % base
        if 2 * digit > base:
            digit = digit - base
        digits.append(digit)
        number = (number - digit) // base
    return digits


def _is_multiple(tops, others):
    """Whether nothing is left over when others divides tops."""
    return top_power(_divided_whole(tops, others)[1]) == -1
