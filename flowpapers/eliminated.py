"""Polynomials in t and y: what is left when y is eliminated.

A *stack* is a list of rows: row number j holds the numbers, integers by ascending powers of t, that go with y ** j;
its last row is not without numbers. A *remainder* number k of two stacks is the list of the k + 1 determinants that
go with y ** 0, .., y ** k: wherever those of all lesser k vanish and its last one does not, both stacks have k zeros y
in common, those of this polynomial.
"""

from flowpapers.wholes import top_power, whole_rows


def stack_of(plane):
    """The stack of a Plane other than 0, with x for t, up to a factor above 0."""
    rows, _ = whole_rows(plane.rows)
    wide = max([len(row) for row in rows])
    return [[row[j] if j < len(row) else 0 for row in rows] for j in range(wide)]


def remainder(stack, other, k):
    """The remainder number k; k is at most as great as the lesser degree in y."""
    if k == len(other) - 1:
        return [_shortened_row(row) for row in other]
    if k == len(stack) - 1:
        return [_shortened_row(row) for row in stack]
    bits = _bits(stack, other, k)
    many = len(stack) + len(other) - 3 - k
    # Each row has the numbers of one stack times a power of y, from the greatest power on.
    rows = [(_packed(one, bits), shift) for one, count in ((stack, len(other) - 1 - k), (other, len(stack) - 1 - k))
            for shift in range(count)]
    found = []
    for j in range(k + 1):
        powers = list(range(many, k, -1)) + [j]
        matrix = [[_entry(one, power - shift) for power in powers] for one, shift in rows]
        found.append(_unpacked(determinant(matrix), bits))
    return found


def determinant(rows):
    """The determinant of a square of integers."""
    rows = [list(row) for row in rows]
    sign, ahead, many = 1, 1, len(rows)
    for at in range(many):
        place = _first_other(rows, at)
        if place is None:
            return 0
        if place != at:
            rows[at], rows[place] = rows[place], rows[at]
            sign = -sign
        pivot = rows[at]
        # All numbers stay integers, since they are determinants of parts of the square.
        for k in range(at + 1, many):
            rows[k] = [
                (number * pivot[at] - rows[k][at] * further) // ahead for number, further in zip(rows[k], pivot)
            ]
        ahead = pivot[at]
    return sign * ahead


def _first_other(rows, at):
    """The index of the first row, from this one on, with a number other than 0 at this place."""
    for k in range(at, len(rows)):
        if rows[k][at] != 0:
            return k
    return None


def _shortened_row(tops):
    return tops[:top_power(tops) + 1]


def _entry(numbers, power):
    return numbers[power] if 0 <= power < len(numbers) else 0


def _bits(stack, other, k):
    """So many bits that all numbers of the determinants, and their signs, have room in them."""
    sizes = [sum([abs(number) for row in one for number in row]).bit_length() for one in (stack, other)]
    return sizes[0] * (len(other) - 1 - k) + sizes[1] * (len(stack) - 1 - k) + 2


def _packed(stack, bits):
    """The values of the rows at t = 2 ** bits: from such values their numbers can be read."""
    return [sum([number << (bits * power) for power, number in enumerate(row)]) for row in stack]


def _unpacked(number, bits):
    """The row of integers, of less than bits - 1 bits each, with this value at t = 2 ** bits."""
    found = []
    half, full = 1 << (bits - 1), 1 << bits
    while number != 0:
        digit = number & (full - 1)
        if digit >= half:
            digit = digit - full
        found.append(digit)
        number = (number - digit) >> bits
    return found
