"""Whether some numbers make all sums of given rows at least 1, or shares of the rows add up to 0."""

from math import gcd

from flowpapers.ratios import plus, share, times
from flowpapers.shares import Table

# Rows with longer numbers than of so many bits seldom have a common divisor that is worth to be sought.
LONG = 2000


def numbers_or_shares(rows):
    """For rows of as many ratios each, told as pairs (integers, integer by which to divide them): one of

    (numbers, None): as many ratios; for each row the sum of the products with them is at least 1;
    (None, shares): pairs (index, share), ascending, shares above 0 that add up to 1; so often the rows make zeros.
    """
    scaled = [_shortest_whole(tops, below) for tops, below in rows]
    columns = [tops for tops, _ in scaled]
    signs = [-1 if number > 0 else 1 for number in columns[0]]
    table = _table(columns, signs)
    many = len(rows)
    # The first row alone, with what is missing: all shares are from 0 on, as the signs are chosen.
    table.take(0, table.weights(0))
    while _missing(table, many) > 0:
        column = table.cheaper(many)
        if column is None:
            return _numbers(table, signs, scaled), None
        table.take(column, table.weights(column))
    return None, _shares(table, [scale for _, scale in scaled])


def _shortest_whole(tops, below):
    """A short row of integers, and the ratio above 0, of which a row is the first times the second."""
    if max([abs(number) for number in tops]).bit_length() > LONG:
        return tops, (1, below)
    divisor = 0
    for number in tops:
        divisor = gcd(divisor, number)
    divisor = max(divisor, 1)
    return [number // divisor for number in tops], (divisor, below)


def _table(columns, signs):
    """The table of these columns, each with a number of its size behind it, and of what may be missing, at a cost."""
    many = len(signs)
    lengths = [max([abs(number) for number in column]).bit_length() for column in columns]
    behind = [1 << (length - min(lengths)) for length in lengths]
    sizes = [max([abs(column[at]) for column in columns]).bit_length() for at in range(many)]
    missing = [[1 if k == at else 0 for k in range(many + 1)] for at in range(many + 1)]
    full = [
        [sign * number for sign, number in zip(signs, column)] + [last] for column, last in zip(columns, behind)
    ]
    # What is missing at places with small numbers costs more.
    costs = [0] * len(columns) + [1 << (max(sizes) - size) for size in sizes] + [1 << max(sizes)]
    used = list(range(len(columns), len(columns) + many + 1))
    return Table(full + missing, costs, used, [0] * many + [1])


def _missing(table, many):
    """Something above 0 if anything is missing."""
    return sum([row[0] for column, row in zip(table.used, table.rows) if column >= many])


def _numbers(table, signs, scaled):
    """The prices with turned signs, so great that all sums are at least 1."""
    numbers = [-sign * price for sign, price in zip(signs, table.prices())]
    factor = (0, 1)
    for column, (top, bottom) in scaled:
        total = top * sum([one * other for one, other in zip(numbers, column)])
        if total * factor[0] < bottom * factor[1]:
            factor = (bottom, total)
    return [times(number, factor) for number in numbers]


def _shares(table, scales):
    """The shares of the rows themselves, each of which is a column times a ratio."""
    many = len(scales)
    found = [
        (column, share(row[0], scales[column])) for column, row in zip(table.used, table.rows)
        if column < many and row[0] > 0
    ]
    whole = (0, 1)
    for _, number in found:
        whole = plus(whole, number)
    return [(column, share(number, whole)) for column, number in sorted(found)]
