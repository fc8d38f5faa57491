"""Linear flows: their kinds, forms that fall along them, least rooms that they keep, and switching."""

from flowpapers.common_forms import UNITS, apart_at, common_form_of, falls_along
from flowpapers.errors import BadRow
from flowpapers.forms import (
    blended, determinant_of, draws, inverse_of, is_above, row_of, slope_of, trace_of,
)
from flowpapers.kinds import held, is_strict_ratio, pair_of
from flowpapers.least_rooms import added, directions_of, least_of, points_of, sums_of, value_of
from flowpapers.lowest import lowest_form
from flowpapers.ratios import lower, minus, times


class Kind:
    """The trace and the determinant of a matrix, and a word for how its flow moves."""

    def __init__(self, trace, determinant, word):
        self.trace = held(trace)
        self.determinant = held(determinant)
        self.word = held(word)


class Falling:
    """The one form that falls as told along a flow."""

    def __init__(self, form):
        self.form = held(form)


class Staying:
    """A form that never changes along a flow."""

    def __init__(self, form):
        self.form = held(form)


class LeastRoom:
    """The least kept room with some points, and shares of the sums that show that it is."""

    def __init__(self, numbers, shares):
        self.numbers = held(numbers)
        self.shares = held(shares)


class NoRoom:
    """Shares of the sums that show that no kept room has some points."""

    def __init__(self, shares):
        self.shares = held(shares)


class Common:
    """A form above 0 that falls along the flows of both matrices."""

    def __init__(self, form):
        self.form = held(form)


class Apart:
    """Where both matrices, with one another or against, come to a determinant of at most 0."""

    def __init__(self, way, t):
        self.way = held(way)
        self.t = held(t)


def kind(matrix):
    """The Kind of a matrix; BadRow(matrix)."""
    found = row_of(matrix, 4)
    if found is None:
        raise BadRow(matrix)
    trace, determinant = trace_of(found), determinant_of(found)
    return Kind(trace, determinant, _word(found, trace, determinant))


def slope_of_form(matrix, form):
    """The slope of a form along the flow of a matrix; BadRow(matrix), BadRow(form)."""
    found, start = row_of(matrix, 4), row_of(form, 3)
    if found is None:
        raise BadRow(matrix)
    if start is None:
        raise BadRow(form)
    return slope_of(found, start)


def form_for(matrix, falls):
    """A Falling, or a Staying if the trace or the determinant is 0; BadRow(matrix), BadRow(falls)."""
    found, fall = row_of(matrix, 4), row_of(falls, 3)
    if found is None:
        raise BadRow(matrix)
    if fall is None:
        raise BadRow(falls)
    slopes = [slope_of(found, unit) for unit in UNITS]
    if trace_of(found)[0] == 0 or determinant_of(found)[0] == 0:
        return Staying(row_of(lowest_form(list(zip(slopes[0], slopes[1], slopes[2])), 3)[0], 3))
    # The fall, once, and the slopes of the three units, as often as the form has them, add up to 0.
    return Falling(row_of(lowest_form(list(zip(fall, slopes[0], slopes[1], slopes[2])), 4)[0][1:], 3))


def least_room(matrix, shift, directions, points):
    """A LeastRoom, or NoRoom; BadRow(matrix), BadRow(shift), BadRow(directions), BadRow(points)."""
    rows = _checked_sums(matrix, shift, directions, points)
    many = len(directions)
    numbers, shares = least_of(rows, many)
    quarters = tuple([tuple(shares[4 * k:4 * k + 4]) for k in range(many)])
    return NoRoom(quarters) if numbers is None else LeastRoom(tuple(numbers), quarters)


def is_least_room(matrix, shift, directions, points, told):
    """Whether told, any value, is what least_room describes; errors as of least_room."""
    rows = _checked_sums(matrix, shift, directions, points)
    many = len(directions)
    if not isinstance(told, (LeastRoom, NoRoom)) or not _are_shares(told.shares, many):
        return False
    total = added(rows, [pair_of(number) for quarter in told.shares for number in quarter])
    if isinstance(told, NoRoom):
        return total == [(0, 1)] * many + [(-1, 1)]
    if not isinstance(told.numbers, tuple) or len(told.numbers) != many:
        return False
    if not all([is_strict_ratio(number) for number in told.numbers]):
        return False
    if any([lower(value_of(row, told.numbers), 0) for row in rows]):
        return False
    whole = (0, 1)
    for number in told.numbers:
        whole = minus(whole, number)
    return total == [(1, 1)] * many + [whole]


def common_form(one, other):
    """A Common, or an Apart; BadRow(one), BadRow(other), also for matrices that do not draw all flows."""
    first, second = _drawing(one), _drawing(other)
    for way, turned in (("with", second), ("against", inverse_of(second))):
        t = apart_at(first, turned)
        if t is not None:
            return Apart(way, t)
    return Common(common_form_of(first, second))


def is_common(one, other, told):
    """Whether told, any value, is what common_form describes; BadRow(one), BadRow(other)."""
    first, second = _drawing(one), _drawing(other)
    if isinstance(told, Common):
        if not _is_strict_row(told.form, 3):
            return False
        form = row_of(told.form, 3)
        return is_above(form) and falls_along(first, form) and falls_along(second, form)
    if not isinstance(told, Apart) or not is_strict_ratio(told.t):
        return False
    if not lower(0, told.t) or not lower(told.t, 1):
        return False
    if not isinstance(told.way, str) or told.way not in ("with", "against"):
        return False
    turned = second if told.way == "with" else inverse_of(second)
    return not lower(0, determinant_of(blended(first, turned, told.t)))


def _word(matrix, trace, determinant):
    """How the flow of a matrix moves."""
    if determinant[0] < 0:
        return "saddle"
    way = "in" if trace[0] < 0 else "out"
    if determinant[0] > 0:
        if trace[0] == 0:
            return "round"
        return ("turning " if lower(times(trace, trace), times(4, determinant)) else "straight ") + way
    if trace[0] != 0:
        return "line " + way
    return "sliding" if any([top for top, _ in matrix]) else "still"


def _checked_sums(matrix, shift, directions, points):
    """The four sums of each direction; BadRow in the order of the arguments."""
    found, start = row_of(matrix, 4), row_of(shift, 2)
    if found is None:
        raise BadRow(matrix)
    if start is None:
        raise BadRow(shift)
    ways, places = directions_of(directions), points_of(points)
    if ways is None:
        raise BadRow(directions)
    if places is None:
        raise BadRow(points)
    return sums_of(found, start, ways, places)


def _drawing(matrix):
    """A matrix as it is told; BadRow for what is none, or does not draw all flows."""
    found = row_of(matrix, 4)
    if found is None or not draws(found):
        raise BadRow(matrix)
    return found


def _is_strict_row(value, many):
    """Whether any value is a tuple of so many ratios, all of them as in values that are judged."""
    return isinstance(value, tuple) and len(value) == many and all([is_strict_ratio(number) for number in value])


def _are_shares(value, many):
    """Whether any value is a tuple of so many tuples of four ratios from 0 on."""
    if not isinstance(value, tuple) or len(value) != many:
        return False
    if not all([_is_strict_row(row, 4) for row in value]):
        return False
    return not any([lower(number, 0) for row in value for number in row])
