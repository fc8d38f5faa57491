"""Where polynomials that have each of their zeros once are 0 from 0 to 1.

A *spot* is a row (k, m, is_zero): the zero is k / 2 ** m if is_zero is True; otherwise it is the only
one strictly between k / 2 ** m and (k + 1) / 2 ** m. Polynomials are rows of integers here.
"""

from flowpapers.corner_rows import changes, corner_row, halves


def spots(tops):
    """The spots of all zeros from 0 to 1, in ascending order."""
    if len(tops) < 2:
        return []
    row = corner_row(tops)
    found = [(0, 0, True)] if row[0] == 0 else []
    # What is to be looked through, from the last one on; a middle that is a zero stands without corners.
    todo = [(row, 0, 0)]
    while todo:
        row, k, m = todo.pop()
        if row is None:
            found.append((k, m, True))
        elif changes(row) == 1:
            found.append((k, m, False))
        elif changes(row) > 1:
            todo.extend(_both_halves(row, k, m))
    return found + ([(1, 0, True)] if value_at(tops, 1, 0) == 0 else [])


def value_at(tops, k, m):
    """The value at k / 2 ** m, times 2 to the power of m times the degree."""
    value, shift = 0, 0
    for number in reversed(tops):
        value = value * k + (number << shift)
        shift = shift + m
    return value


def is_inside(tops, k, m):
    """Whether an odd number of zeros lies strictly between k / 2 ** m and (k + 1) / 2 ** m."""
    return _sign_behind(tops, k, m) != _sign_ahead(tops, k + 1, m)


def closer(tops, spot, bits):
    """The spot of the same zero with m at least bits, or its exact spot."""
    k, m, is_zero = spot
    left = _sign_behind(tops, k, m)
    wide = 1
    while m < bits and not is_zero:
        # A guess among 2 ** wide parts: as often as it is right the number of parts is squared.
        part = _guess(tops, k, m, wide)
        start, fine = (k << wide) + part, m + wide
        low = left if part == 0 else sign_of_integer(value_at(tops, start, fine))
        high = -left if part + 1 == 1 << wide else sign_of_integer(value_at(tops, start + 1, fine))
        if low == 0 or high == 0:
            k, m, is_zero = (start if low == 0 else start + 1), fine, True
        elif low == left and high == -left:
            k, m, wide = start, fine, 2 * wide
        elif wide == 1:
            k, m, wide = 2 * k + 1 - part, fine, 2
        else:
            wide = wide // 2
    return k, m, is_zero


def ratio_in(tops, k, m):
    """The ratio strictly between k / 2 ** m and (k + 1) / 2 ** m that is a zero, None if there is none.

    m is so great that there is at most one multiple of 1 / lead, lead being the greatest power's number:
    zeros that are ratios are such multiples.
    """
    lead = abs(tops[-1])
    top = (k * lead >> m) + 1
    if top << m >= (k + 1) * lead:
        return None
    value, power = 0, 1
    for number in reversed(tops):
        value = value * top + number * power
        power = power * lead
    return (top, lead) if value == 0 else None


def _both_halves(row, k, m):
    """What is to be looked through instead of a stretch, the last part first."""
    lows, highs = halves(row, len(row) - 1)
    middle = [(None, 2 * k + 1, m + 1)] if highs[0] == 0 else []
    return [(highs, 2 * k + 1, m + 1), *middle, (lows, 2 * k, m + 1)]


def sign_of_integer(number):
    """1, 0 or -1."""
    if number == 0:
        return 0
    return 1 if number > 0 else -1


def _slope(tops):
    return [power * number for power, number in enumerate(tops)][1:]


def _sign_behind(tops, k, m):
    """The sign just above k / 2 ** m."""
    return sign_of_integer(value_at(tops, k, m)) or sign_of_integer(value_at(_slope(tops), k, m))


def _sign_ahead(tops, k, m):
    """The sign just below k / 2 ** m."""
    return sign_of_integer(value_at(tops, k, m)) or -sign_of_integer(value_at(_slope(tops), k, m))


def _guess(tops, k, m, wide):
    """The index of that of 2 ** wide parts in which a straight line between the ends would be 0."""
    low, high = abs(value_at(tops, k, m)), abs(value_at(tops, k + 1, m))
    if low + high == 0:
        return 1 << (wide - 1)
    return min((low << wide) // (low + high), (1 << wide) - 1)
