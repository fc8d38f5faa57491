"""Corners of polynomials on stretches, as rows of integers that are right up to one factor above 0."""

from math import factorial, perm

from flowpapers.wholes import whole_row


def corner_row(tops):
    """The corners from 0 to 1 of the polynomial with this row of integers as its numbers."""
    degree = max(len(tops) - 1, 0)
    shares = [number * factorial(degree - power) for power, number in enumerate(tops)]
    return [
        sum([shares[power] * perm(k, power) for power in range(min(k + 1, len(shares)))])
        for k in range(degree + 1)
    ]


def corner_row_on(tops, low, high):
    """The corners from low to high, two pairs."""
    (start, end), below = whole_row((low, high))
    width = end - start
    found, scale = [], 1
    # The powers of start + width * s, each with the powers of below that keep all numbers integers.
    for number in reversed(tops):
        found = _times_step(found, start, width)
        found[0] = found[0] + number * scale
        scale = scale * below
    return corner_row(found)


def halves(row, shift):
    """The corners on the first and on the second half, both times 2 ** shift, shift at least len(row) - 1."""
    lows, highs = [], []
    while row:
        lows.append(row[0] << shift)
        highs.append(row[-1] << shift)
        row = [number + further for number, further in zip(row, row[1:])]
        shift = shift - 1
    return lows, highs[::-1]


def changes(row):
    """How often the sign changes along a row, zeros left out."""
    signs = [number > 0 for number in row if number != 0]
    return sum([1 for k, is_above in enumerate(signs[1:]) if is_above != signs[k]])


def _times_step(row, start, width):
    """The product of a row of integers by ascending powers and start + width * s."""
    lows = [start * number for number in row] + [0]
    highs = [0] + [width * number for number in row]
    return [low + high for low, high in zip(lows, highs)]
