"""Fields, and what their flows keep."""

from flowpapers.errors import BadNumber, BadRow
from flowpapers.kinds import held, is_from, is_place, is_row_of, pair_of
from flowpapers.lowest import lowest_form
from flowpapers.planes import Plane
from flowpapers.polys import Poly, common, divided
from flowpapers.quotients import content, quotient
from flowpapers.ratios import is_ratio, minus, plus, share, times
from flowpapers.wholes import whole_rows


class Field:
    """The field x' = p(x, y), y' = q(x, y) of two Planes."""

    def __init__(self, p, q):
        self.p = held(p)
        self.q = held(q)

    def __eq__(self, other):
        return isinstance(other, Field) and self.p == other.p and self.q == other.q


def field_at(field, place):
    """The values of p and q; BadRow(place) for what is no pair of ratios."""
    return field.p.at(place), field.q.at(place)


def slope_along(field, plane):
    """The slope of plane in time along the flow."""
    return field.p * plane.slope_x() + field.q * plane.slope_y()


def slopes_along(field, plane, many):
    """The plane, its slope along the flow, the slope of this one, and so on; BadNumber("many", many)."""
    if not is_from(many, 0, 6):
        raise BadNumber("many", many)
    found = [plane]
    for _ in range(many):
        found.append(slope_along(field, found[-1]))
    return tuple(found)


def stream_out(field):
    """The slope of p in x and the slope of q in y together."""
    return field.p.slope_x() + field.q.slope_y()


def bend_at(field, place):
    """The slopes of p in x and y, and those of q, at a place; BadRow(place) for what is no pair of ratios."""
    return (
        (field.p.slope_x().at(place), field.p.slope_y().at(place)),
        (field.q.slope_x().at(place), field.q.slope_y().at(place)),
    )


def turned_back(field):
    """The field whose flows are the same, gone backwards."""
    return Field(-field.p, -field.q)


def changed(field, matrix, shift):
    """The field by which the places (a * x + b * y + e, c * x + d * y + f) move when (x, y) move by field.

    BadRow(matrix), BadRow(shift), BadNumber("determinant", 0).
    """
    if not is_row_of(matrix, 4):
        raise BadRow(matrix)
    if not is_place(shift):
        raise BadRow(shift)
    a, b, c, d = [pair_of(number) for number in matrix]
    determinant = minus(times(a, d), times(b, c))
    if determinant[0] == 0:
        raise BadNumber("determinant", 0)
    # The way back from the new places to the old ones.
    back = [share(number, determinant) for number in (d, times(-1, b), times(-1, c), a)]
    start = [times(-1, plus(times(back[k], shift[0]), times(back[k + 1], shift[1]))) for k in (0, 2)]
    p, q = field.p.moved(back, start), field.q.moved(back, start)
    return Field(a * p + b * q, c * p + d * q)


def series(field, order):
    """The pairs (X_k, Y_k) for k from 0 to order: the flow for short times t is the sum of them times t ** k.

    BadNumber("order", order).
    """
    if not is_from(order, 0, 6):
        raise BadNumber("order", order)
    found = [(Plane(((), (1,))), Plane(((0, 1),)))]
    for k in range(order):
        x, y = found[-1]
        found.append(((1, k + 1) * slope_along(field, x), (1, k + 1) * slope_along(field, y)))
    return tuple(found)


def unchanging(field, degree):
    """The Planes whose sums are all unchanging ones of at most this degree, without a constant, in lowest form.

    BadNumber("degree", degree).
    """
    if not is_from(degree, 0, 6):
        raise BadNumber("degree", degree)
    powers = powers_to(1, degree)
    slopes = [slope_along(field, power_plane(i, j)) for i, j in powers]
    return tuple([plane_of_powers(powers, row) for row in lowest_form(equations_of(slopes), len(powers))])


def factor_of(field, plane):
    """The Plane L such that the slope of plane along the flow is L * plane, None if there is none.

    BadNumber("plane", 0).
    """
    if plane.degree() == -1:
        raise BadNumber("plane", 0)
    tops, below = whole_rows(slope_along(field, plane).rows)
    others, other_below = whole_rows(plane.rows)
    if not tops:
        return Plane(())
    divisor = content(others)
    found = quotient(tops, [[number // divisor for number in row] for row in others])
    if found is None:
        return None
    return Plane([[(number * other_below, below * divisor) for number in row] for row in found])


def products(field, planes):
    """The rows of powers with which the product of the planes never changes along the flow, in lowest form.

    BadNumber("plane", index) for the first one that is no Plane of a degree of 1 or more with a factor.
    """
    factors = []
    for index, plane in enumerate(planes):
        factor = factor_of(field, plane) if isinstance(plane, Plane) and plane.degree() > 0 else None
        if factor is None:
            raise BadNumber("plane", index)
        factors.append(factor)
    return lowest_form(equations_of(factors), len(factors))


def kept_lines(field, slope):
    """The Poly whose zeros are all c for which the line y = slope * x + c is kept; BadNumber("slope", slope)."""
    if not is_ratio(slope):
        raise BadNumber("slope", slope)
    m = pair_of(slope)
    # y stands for c, and x stays.
    turned = (1, 0, m, 1)
    return _common_zeros((field.q.moved(turned, (0, 0)) - m * field.p.moved(turned, (0, 0))).rows)


def kept_uprights(field):
    """The Poly whose zeros are all c for which the line x = c is kept."""
    wide = max([len(row) for row in field.p.rows], default=0)
    return _common_zeros([[row[j] if j < len(row) else 0 for row in field.p.rows] for j in range(wide)])


def power_plane(i, j):
    """The Plane x ** i * y ** j."""
    return Plane([()] * i + [[0] * j + [1]])


def powers_to(least, most):
    """The pairs (i, j) with a sum from least to most: by their sums, of equal sums the greater i first."""
    return [(total - j, j) for total in range(least, most + 1) for j in range(total + 1)]


def plane_of_powers(powers, row):
    """The Plane with the numbers of a row at these powers."""
    numbers = {power: number for power, number in zip(powers, row)}
    many = range(max([i + j for i, j in powers]) + 1)
    return Plane([[numbers.get((i, j), 0) for j in many] for i in many])


def equations_of(planes):
    """For each power a row with its number in each of the planes."""
    many = range(max([len(plane.rows) for plane in planes], default=0))
    wide = range(max([len(row) for plane in planes for row in plane.rows], default=0))
    return [[_number_in(plane, i, j) for plane in planes] for i in many for j in wide]


def _number_in(plane, i, j):
    """The number of x ** i * y ** j, a pair."""
    if i < len(plane.rows) and j < len(plane.rows[i]):
        return plane.rows[i][j]
    return 0, 1


def _common_zeros(rows):
    """The Poly with just the common zeros of the polynomials with these numbers, each once."""
    found = Poly(())
    for row in rows:
        found = common(found, Poly(row))
    if found.degree() < 1:
        return found
    simple = divided(found, common(found, found.slope()))[0]
    return divided(simple, Poly(simple.numbers[-1:]))[0]
