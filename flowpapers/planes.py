"""Polynomials of two letters x and y whose numbers are ratios."""

from flowpapers.errors import BadRow, BadText
from flowpapers.kinds import is_place, is_row, is_row_of, is_strict_ratio, place_of
from flowpapers.polys import Poly
from flowpapers.ratios import plus, ratio_text, times, told
from flowpapers.terms import terms_of
from flowpapers.wholes import top_power, total, whole_row, whole_rows


class Plane:
    """The polynomial in x and y with rows[i][j] as the number of x ** i * y ** j."""

    def __init__(self, rows):
        if not _are_rows(rows):
            raise BadRow(rows)
        shortened = [_shortened([told(number, "number") for number in row]) for row in rows]
        many = top_power([len(row) for row in shortened]) + 1
        self.rows = tuple(shortened[:many])

    def __eq__(self, other):
        return isinstance(other, Plane) and self.rows == other.rows

    def __add__(self, other):
        plane = _plane_beside(other)
        if plane is None:
            return NotImplemented
        return _plane_sum(self, plane)

    def __radd__(self, other):
        plane = _plane_beside(other)
        if plane is None:
            return NotImplemented
        return _plane_sum(plane, self)

    def __sub__(self, other):
        plane = _plane_beside(other)
        if plane is None:
            return NotImplemented
        return _plane_sum(self, -plane)

    def __rsub__(self, other):
        plane = _plane_beside(other)
        if plane is None:
            return NotImplemented
        return _plane_sum(plane, -self)

    def __mul__(self, other):
        plane = _plane_beside(other)
        if plane is None:
            return NotImplemented
        return _plane_product(self, plane)

    def __rmul__(self, other):
        plane = _plane_beside(other)
        if plane is None:
            return NotImplemented
        return _plane_product(plane, self)

    def __neg__(self):
        return Plane([[(-top, bottom) for top, bottom in row] for row in self.rows])

    def degree(self):
        """The greatest sum i + j with a number other than 0, -1 if there is none."""
        return max([i + len(row) - 1 for i, row in enumerate(self.rows) if row], default=-1)

    def at(self, point):
        """The value at a pair of ratios, as a pair; BadRow(point) for what is none."""
        if not is_place(point):
            raise BadRow(point)
        rows, below = whole_rows(self.rows)
        (x, y), bottom = whole_row(place_of(point))
        wide = max([len(row) for row in rows], default=1)
        inner = [_value_at(row + [0] * (wide - len(row)), y, bottom) for row in rows]
        return told((_value_at(inner, x, bottom), _scaled(below, bottom, wide + len(rows) - 2)), "value")

    def slope_x(self):
        """The slope in x: with i times the number of x ** i * y ** j for x ** (i - 1) * y ** j."""
        return Plane([[times(i, number) for number in row] for i, row in enumerate(self.rows)][1:])

    def slope_y(self):
        """The slope in y: with j times the number of x ** i * y ** j for x ** i * y ** (j - 1)."""
        return Plane([[times(j, number) for j, number in enumerate(row)][1:] for row in self.rows])

    def along(self, start, step):
        """The Poly that has at each t the value at start + t * step; BadRow for what is no pair of ratios."""
        for point in (start, step):
            if not is_place(point):
                raise BadRow(point)
        (x, y), (step_x, step_y) = start, step
        line = self.moved((step_x, 0, step_y, 0), (x, y))
        return Poly([row[0] if row else 0 for row in line.rows])

    def moved(self, matrix, shift):
        """The Plane that has at (x, y) the value at (a * x + b * y + e, c * x + d * y + f).

        matrix is (a, b, c, d), shift is (e, f); BadRow for what is no such row of ratios.
        """
        if not is_row_of(matrix, 4):
            raise BadRow(matrix)
        if not is_place(shift):
            raise BadRow(shift)
        parts = [told(number, "number") for number in [*matrix, *shift]]
        (a, b, c, d, e, f), bottom = whole_row(parts)
        rows, below = whole_rows(self.rows)
        numbers, scale = moved_whole(rows, (a, b, e), (c, d, f), bottom, max(self.degree(), 0))
        return _plane_of_numbers(numbers, below * scale)


def plane_of(text):
    """The Plane of a text; BadText(0) for what is no string, BadText(column) for what is no text of a plane."""
    if not isinstance(text, str):
        raise BadText(0)
    found = {}
    for i, j, number in terms_of(text):
        found.setdefault((i, j), []).append(number)
    return Plane([[total(found.get((i, j), [])) for j in range(13)] for i in range(13)])


def plane_text(plane):
    """The text of a plane, with each number other than 0 once, in ascending order by the power of x, then of y."""
    texts = []
    for i, row in enumerate(plane.rows):
        for j, (top, bottom) in enumerate(row):
            if top != 0:
                texts.append(_sign_text(top, not texts) + _term_text(i, j, (abs(top), bottom)))
    return "".join(texts) if texts else "0"


def _sign_text(top, is_first):
    if is_first:
        return "-" if top < 0 else ""
    return " - " if top < 0 else " + "


def _term_text(i, j, number):
    """The text of a number above 0 and its powers."""
    powers = [_power_text(letter, power) for letter, power in (("x", i), ("y", j)) if power > 0]
    if powers and number == (1, 1):
        return "*".join(powers)
    return "*".join([ratio_text(number)] + powers)


def _power_text(letter, power):
    return letter if power == 1 else f"{letter}^{power}"


def _are_rows(value):
    """Whether any value is a tuple or list of tuples or lists of ratios."""
    return isinstance(value, (tuple, list)) and all([is_row(row) for row in value])


def _shortened(pairs):
    """The row as a tuple without zeros at its end."""
    return tuple(pairs[:top_power([top for top, _ in pairs]) + 1])


def _plane_beside(value):
    """The Plane for which a value beside a sign stands, None if it stands for none."""
    if isinstance(value, Plane):
        return value
    if is_strict_ratio(value):
        return Plane(((value,),))
    return None


def _row(plane, i):
    """The row of x ** i, also above the last one."""
    return plane.rows[i] if i < len(plane.rows) else ()


def _plane_sum(one, other):
    many = max(len(one.rows), len(other.rows))
    return Plane([_row_sum(_row(one, i), _row(other, i)) for i in range(many)])


def _row_sum(row, other):
    shared = min(len(row), len(other))
    return [plus(row[j], other[j]) for j in range(shared)] + list(row[shared:]) + list(other[shared:])


def _plane_product(one, other):
    many = len(one.rows) + len(other.rows)
    return Plane([_product_row(_facing(one.rows, other.rows, i)) for i in range(many)])


def _facing(rows, others, i):
    """The pairs of rows whose products make the row of x ** i."""
    return [(rows[k], others[i - k]) for k in range(max(0, i + 1 - len(others)), min(i + 1, len(rows)))]


def _product_row(facing):
    wide = max([len(row) + len(other) for row, other in facing], default=0)
    return [total(_crossed_pairs(facing, j)) for j in range(wide)]


def _crossed_pairs(facing, j):
    """The products of numbers, in any terms, that add up to the number of y ** j in the products of rows."""
    return [
        (row[k][0] * other[j - k][0], row[k][1] * other[j - k][1])
        for row, other in facing
        for k in range(max(0, j + 1 - len(other)), min(j + 1, len(row)))
        if row[k][0] != 0 and other[j - k][0] != 0
    ]


def _value_at(tops, top, bottom):
    """The value of a row of integers at top / bottom, times bottom to the power of one less than its length."""
    value, power = 0, 1
    for number in reversed(tops):
        value = value * top + number * power
        power = power * bottom
    return value


def _scaled(number, bottom, many):
    """The number times so many bottoms."""
    for _ in range(many):
        number = number * bottom
    return number


def moved_whole(rows, over, up, bottom, many):
    """A dict (i, j) of integers, and the integer by which they are to be divided: rows of integers, moved.

    over and up are rows (a, b, e) of integers: (a * x + b * y + e) / bottom stands for x or y. The integer by which
    they are to be divided is bottom to the power of many, which is at least the degree.
    """
    scales = [1]
    for _ in range(many):
        scales.append(scales[-1] * bottom)
    found = {}
    for i in reversed(range(len(rows))):
        inner = {}
        for j in reversed(range(len(rows[i]))):
            inner = _times_line(inner, up)
            inner[0, 0] = inner.get((0, 0), 0) + rows[i][j] * scales[many - i - j]
        found = _times_line(found, over)
        for place in inner:
            found[place] = found.get(place, 0) + inner[place]
    return found, scales[many]


def _times_line(numbers, line):
    """The product of a dict (i, j) of integers and a * x + b * y + e."""
    a, b, e = line
    found = {}
    for i, j in numbers:
        number = numbers[i, j]
        for place, factor in (((i + 1, j), a), ((i, j + 1), b), ((i, j), e)):
            if factor != 0:
                found[place] = found.get(place, 0) + factor * number
    return found


def _plane_of_numbers(numbers, below):
    """The Plane with a dict (i, j) of integers as its numbers, each divided by below."""
    high = max([i for i, _ in numbers], default=-1)
    wide = max([j for _, j in numbers], default=-1)
    return Plane([[(numbers.get((i, j), 0), below) for j in range(wide + 1)] for i in range(high + 1)])
