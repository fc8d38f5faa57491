"""Which rows of numbers solve equations without a constant: all of them are sums of a few."""

from math import isqrt

from flowpapers.wholes import whole_row


def lowest_form(equations, many):
    """The rows of so many ratios of which all solutions are sums with factors, in lowest form.

    Each row has the number 1 at its first place with a number other than 0, at which all other rows have 0,
    and these places ascend. An equation is a row of so many pairs: the products with them add up to 0.
    """
    wholes = [whole_row(equation)[0] for equation in equations]
    bits = 512
    while True:
        # No two of the numbers 2 ** 512 + 1, 2 ** 1024 + 1, .. have a divisor in common, so only finitely
        # many of them share one with a number that comes up here: some attempt succeeds.
        found = _attempt(wholes, many, (1 << bits) + 1)
        if found is not None and all([_solves(wholes, row) for row in found]):
            return tuple(found)
        bits = 2 * bits


def _attempt(wholes, many, modulus):
    """The rows, if all goes well with remainders of numbers; None if a number has no inverse or is too long.

    Where it goes well, there are at most as many rows as told: numbers that have inverses are not 0.
    """
    solved = _solved([[number % modulus for number in row] for row in wholes], many, modulus)
    if solved is None:
        return None
    found = []
    for place in range(many):
        if place not in solved:
            row = [_number_at(solved, place, column, modulus) for column in range(many)]
            if None in row:
                return None
            found.append(tuple(row))
    return found


def _number_at(solved, place, column, modulus):
    """The number in this column of the solution with 1 at a free place and 0 at all others; None if too long."""
    if column in solved:
        return _rebuilt(-solved[column][place] % modulus, modulus)
    return (1, 1) if column == place else (0, 1)


def _solved(rows, many, modulus):
    """A dict: for each column that is not free the row with 1 there and 0 in the others of this kind.

    From the last column on, so that the free ones are the first ones with numbers in the solutions.
    None if a number that should be 1 has no inverse.
    """
    solved = {}
    for column in reversed(range(many)):
        at = _first_with(rows, column)
        if at is not None:
            inverse = _inverse(rows[at][column], modulus)
            if inverse is None:
                return None
            row = [number * inverse % modulus for number in rows[at]]
            rows = [_without(other, row, column, modulus) for k, other in enumerate(rows) if k != at]
            solved = {place: _without(solved[place], row, column, modulus) for place in solved}
            solved[column] = row
    return solved


def _first_with(rows, column):
    for k, row in enumerate(rows):
        if row[column] != 0:
            return k
    return None


def _without(row, other, column, modulus):
    """The row less so often the other one, which has 1 in a column, that it has 0 there."""
    factor = row[column]
    if factor == 0:
        return row
    return [(number - factor * less) % modulus for number, less in zip(row, other)]


def _inverse(number, modulus):
    """The number by which the product leaves 1, None if there is none."""
    rest, further, one, other = modulus, number, 0, 1
    while further != 0:
        part = rest // further
        rest, further = further, rest - part * further
        one, other = other, one - part * other
    return one % modulus if rest == 1 else None


def _rebuilt(number, modulus):
    """The ratio of short numbers that leaves this number, None if there is none."""
    longest = isqrt(modulus // 2)
    rest, further, one, other = modulus, number, 0, 1
    while further > longest:
        part = rest // further
        rest, further = further, rest - part * further
        one, other = other, one - part * other
    if abs(other) > longest or other == 0:
        return None
    return (further, other) if other > 0 else (-further, -other)


def _solves(wholes, row):
    tops, _ = whole_row(row)
    return all([sum([number * top for number, top in zip(equation, tops)]) == 0 for equation in wholes])
