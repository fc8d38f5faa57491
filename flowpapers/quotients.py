"""Division of polynomials of two letters without a rest. Rows of integers stand for them here."""

from math import gcd


def content(rows):
    """The greatest common divisor of all numbers."""
    found = 0
    for row in rows:
        for number in row:
            found = gcd(found, number)
    return found


def quotient(rows, others):
    """The rows whose product with others is rows, None if there are none.

    Neither of both is without numbers, and no integer above 1 divides all numbers of others. So, if there is
    a quotient at all, it has integers as its numbers.
    """
    wide = max([len(row) for row in rows])
    many = len(rows) - len(others) + 1
    across = wide - max([len(row) for row in others]) + 1
    if many < 1 or across < 1:
        return None
    rest = [list(row) + [0] * (wide - len(row)) for row in rows]
    found = [[0] * across for _ in range(many)]
    lead = others[-1][-1]
    for i in reversed(range(many)):
        for j in reversed(range(across)):
            part, left = divmod(rest[i + len(others) - 1][j + len(others[-1]) - 1], lead)
            if left != 0:
                return None
            found[i][j] = part
            _take_away(rest, others, part, i, j)
    return None if any([any(row) for row in rest]) else found


def _take_away(rest, others, part, i, j):
    """Takes the product of others and part * x ** i * y ** j away from rest."""
    if part != 0:
        for k, row in enumerate(others):
            for step, number in enumerate(row):
                rest[i + k][j + step] = rest[i + k][j + step] - part * number
