"""Matrices (a, b, c, d) and forms (p, q, r) of ratios, all as they are told."""

from flowpapers.kinds import is_row_of, pair_of
from flowpapers.ratios import lower, minus, plus, share, times


def row_of(value, many):
    """A row of so many ratios as it is told, None for any value that is none."""
    return tuple([pair_of(number) for number in value]) if is_row_of(value, many) else None


def trace_of(matrix):
    return plus(matrix[0], matrix[3])


def determinant_of(matrix):
    a, b, c, d = matrix
    return minus(times(a, d), times(b, c))


def inverse_of(matrix):
    """The inverse of a matrix whose determinant is not 0."""
    a, b, c, d = matrix
    determinant = determinant_of(matrix)
    return tuple([share(number, determinant) for number in (d, minus(0, b), minus(0, c), a)])


def draws(matrix):
    """Whether each flow comes as near to (0, 0) as one likes."""
    return lower(trace_of(matrix), 0) and lower(0, determinant_of(matrix))


def slope_of(matrix, form):
    """The slope of a form along the flow of a matrix."""
    a, b, c, d = matrix
    p, q, r = form
    return (
        times(2, plus(times(p, a), times(q, c))),
        plus(plus(times(p, b), times(q, plus(a, d))), times(r, c)),
        times(2, plus(times(q, b), times(r, d))),
    )


def turned_form(form):
    """The form with all signs turned."""
    return tuple([minus(0, number) for number in form])


def is_above(form):
    """Whether a form is above 0."""
    p, q, r = form
    return lower(0, p) and lower(times(q, q), times(p, r))


def form_at(form, place):
    """The value of a form at a place."""
    p, q, r = form
    x, y = place
    return plus(plus(times(p, times(x, x)), times(2, times(q, times(x, y)))), times(r, times(y, y)))


def blended(one, other, t):
    """The matrix t * one + (1 - t) * other."""
    return tuple([plus(times(t, number), times(minus(1, t), further)) for number, further in zip(one, other)])
