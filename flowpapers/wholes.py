"""Rows of pairs (top, bottom) over one bottom: sums and products of integers stay quick with long numbers."""

from math import lcm


def bottom_of(pairs):
    """The least integer above 0 that all bottoms divide."""
    below = 1
    for _, bottom in pairs:
        below = lcm(below, bottom)
    return below


def whole_row(pairs):
    """The row of integers, and the integer above 0, of which pairs is the first divided by the second."""
    below = bottom_of(pairs)
    return [top * (below // bottom) for top, bottom in pairs], below


def whole_rows(rows):
    """Likewise for rows of pairs, all over one integer."""
    below = bottom_of([pair for row in rows for pair in row])
    return [[top * (below // bottom) for top, bottom in row] for row in rows], below


def top_power(tops):
    """The greatest index of an integer other than 0 in a row of integers, -1 if there is none."""
    power = len(tops) - 1
    while power >= 0 and tops[power] == 0:
        power = power - 1
    return power


def total(pairs):
    """The sum of pairs, as a pair, not in lowest terms."""
    # Neighbors are added first, then their sums, and so on: so long bottoms meet only at the end.
    parts = [(0, 1)] + pairs
    while len(parts) > 1:
        parts = [_joined(parts[k:k + 2]) for k in range(0, len(parts), 2)]
    return parts[0]


def _joined(parts):
    """The sum of one pair or two."""
    if len(parts) == 1:
        return parts[0]
    (top, bottom), (other, other_bottom) = parts
    if bottom == other_bottom:
        return top + other, bottom
    below = lcm(bottom, other_bottom)
    return top * (below // bottom) + other * (below // other_bottom), below


def row_product(one, other):
    """The product of two polynomials that are rows of integers by ascending powers."""
    many = len(one) + len(other) - 1 if one and other else 0
    return [
        sum([one[k] * other[power - k] for k in range(max(0, power + 1 - len(other)), min(power + 1, len(one)))])
        for power in range(many)
    ]


def row_sum(parts):
    """The sum of rows of integers, each times its factor: parts are pairs (factor, row)."""
    many = max([len(row) for _, row in parts], default=0)
    return [sum([factor * row[power] for factor, row in parts if power < len(row)]) for power in range(many)]


def row_powers(row, many):
    """The powers number 0 to many of a polynomial that is a row of integers."""
    found = [[1]]
    for _ in range(many):
        found.append(row_product(found[-1], row))
    return found
