"""Forms that fall along the flows of two matrices, found by cutting off what holds none of them.

Forms are sought among the rows (p, q, 1 - p): those above 0 have p from 0 to 1 and q from -1/2 to 1/2. A *line* is a
row (a, b, c) of integers; what is left are the places (p, q) with a * p + b * q + c >= 0 for all lines. The lines
stand in an order in which each one touches what is left between the line ahead of it and the next one.
"""

from flowpapers.forms import blended, determinant_of, form_at, is_above, slope_of, turned_form
from flowpapers.kinds import pair_of
from flowpapers.ratios import floor_of, lower, minus, plus, share, times
from flowpapers.wholes import whole_row

BOX = ((1, 0, 0), (0, 2, 1), (-1, 0, 1), (0, -2, 1))
UNITS = (((1, 1), (0, 1), (0, 1)), ((0, 1), (1, 1), (0, 1)), ((0, 1), (0, 1), (1, 1)))


def apart_at(one, other):
    """A ratio t strictly between 0 and 1 for which t * one + (1 - t) * other has a determinant of at most 0.

    None if there is none. Both matrices have determinants above 0.
    """
    # The determinant is first + t * middle + t * t * last; it is least at t = -middle / (2 * last).
    first = determinant_of(other)
    half = determinant_of(blended(one, other, (1, 2)))
    end = determinant_of(one)
    last = times(2, minus(plus(first, end), times(2, half)))
    if not lower(0, last):
        return None
    middle = minus(minus(end, first), last)
    t = share(minus(0, middle), times(2, last))
    if not lower(0, t) or not lower(t, 1) or lower(0, determinant_of(blended(one, other, t))):
        return None
    return t


def falls_along(matrix, form):
    """Whether the slope of a form along the flow of a matrix, with turned signs, is above 0."""
    return is_above(turned_form(slope_of(matrix, form)))


def common_form_of(one, other):
    """A form above 0 that falls along the flows of both matrices; there is one."""
    lines = BOX
    while True:
        p, q = _center(lines)
        form = (p, q, minus(1, p))
        line = _line_off(one, other, form)
        if line is None:
            return form
        lines = _left(lines, line)


def _line_off(one, other, form):
    """A line beyond which all common forms lie, but not this form; None if it is one itself."""
    if not is_above(form):
        place = _place_below(form)
        return _line([form_at(unit, place) for unit in UNITS])
    for matrix in (one, other):
        fall = turned_form(slope_of(matrix, form))
        if not is_above(fall):
            place = _place_below(fall)
            return _line([form_at(turned_form(slope_of(matrix, unit)), place) for unit in UNITS])
    return None


def _place_below(form):
    """A place at which a form that is not above 0 is at most 0, other than (0, 0)."""
    p, q, _ = form
    if not lower(0, p):
        return (1, 1), (0, 1)
    return minus(0, q), p


def _line(values):
    """The line of the forms (p, q, 1 - p) for which p, q and 1 - p times these values add up to 0 or more."""
    whole, _ = whole_row(values)
    return whole[0] - whole[2], whole[1], whole[2]


def _left(lines, line):
    """The lines around what is left behind one more."""
    a, b, c = line
    values = []
    for k, one in enumerate(lines):
        x, y, z = _crossing(one, lines[(k + 1) % len(lines)])
        values.append(a * x + b * y + c * z)
    # A line stays if what is left has places above the new one on it; the new one follows where these end.
    found = []
    for k, one in enumerate(lines):
        if values[k - 1] > 0 or values[k] > 0:
            found.append(one)
            if values[k] <= 0:
                found.append(line)
    return found


def _crossing(one, other):
    """The place (x / z, y / z) where two lines meet, as integers with z above 0."""
    x, y = one[1] * other[2] - one[2] * other[1], one[2] * other[0] - one[0] * other[2]
    z = one[0] * other[1] - one[1] * other[0]
    return (x, y, z) if z > 0 else (-x, -y, -z)


def _center(lines):
    """About the center of gravity of what is left."""
    places = []
    for k, one in enumerate(lines):
        x, y, z = _crossing(one, lines[(k + 1) % len(lines)])
        places.append((pair_of((x, z)), pair_of((y, z))))
    first = places[0]
    area, wide, high = (0, 1), (0, 1), (0, 1)
    for k in range(1, len(places) - 1):
        (a, b), (c, d) = [(minus(x, first[0]), minus(y, first[1])) for x, y in places[k:k + 2]]
        part = minus(times(a, d), times(b, c))
        area = plus(area, part)
        wide = plus(wide, times(part, plus(a, c)))
        high = plus(high, times(part, plus(b, d)))
    bits = 2 * floor_of(share(1, area)).bit_length() + 8
    center = [plus(first[k], share(total, times(3, area))) for k, total in ((0, wide), (1, high))]
    return tuple([pair_of((floor_of(times(1 << bits, number)), 1 << bits)) for number in center])
