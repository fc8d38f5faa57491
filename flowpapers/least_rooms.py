"""The sums that tell of a room with given directions whether a linear flow keeps it, and its least numbers.

A *sum* is a row of ratios, one more than there are directions: the factors of the room's numbers, and a number.
"""

from flowpapers.kinds import is_place, pair_of, place_of
from flowpapers.ratios import lower, minus, plus, share, times
from flowpapers.shares import Table
from flowpapers.wholes import whole_row


def directions_of(value):
    """Directions as they are told, None for any value that is none."""
    if not isinstance(value, (tuple, list)) or len(value) < 3 or not all([is_place(place) for place in value]):
        return None
    found = [place_of(place) for place in value]
    many = len(found)
    if not all([lower(0, _cross(found[k], found[(k + 1) % many])) for k in range(many)]):
        return None
    # Each one is turned by less than half a turn: once around, they come from below to above just once.
    return found if sum([1 for k in range(many) if _is_low(found[k - 1]) and not _is_low(found[k])]) == 1 else None


def points_of(value):
    """One or more points as they are told, None for any value that is none."""
    if not isinstance(value, (tuple, list)) or not value or not all([is_place(place) for place in value]):
        return None
    return [place_of(place) for place in value]


def sums_of(matrix, shift, directions, points):
    """The four sums of each direction, one behind the other."""
    many = len(directions)
    corners = [_crossing_sums(directions, k) for k in range(many)]
    found = []
    for k, (u, v) in enumerate(directions):
        (x, y), (ahead_x, ahead_y) = corners[k], corners[k - 1]
        found.append(_mixed([(minus(0, v), x), (v, ahead_x), (u, y), (minus(0, u), ahead_y)]))
        found.append(_inwards(matrix, shift, (u, v), corners[k - 1]))
        found.append(_inwards(matrix, shift, (u, v), corners[k]))
        found.append(_unit(many, k)[:-1] + [minus(0, _greatest_at(u, v, points))])
    return found


def value_of(row, numbers):
    """The value of a sum for a room with these numbers."""
    found = row[-1]
    for factor, number in zip(row, numbers):
        found = plus(found, times(factor, number))
    return found


def added(rows, shares):
    """All sums, each times its share, as one sum."""
    return _mixed(list(zip(shares, rows)))


def least_of(rows, many):
    """(numbers, shares) of the least room for which all sums are from 0 on, with the shares that show that it is.

    (None, shares) if there is no room; then all sums with these shares add up to -1.
    """
    parts = [whole_row(row[:-1]) for row in rows]
    costs, scale = whole_row([times(below, row[-1]) for row, (_, below) in zip(rows, parts)])
    # With a share of 1 for each last sum of a direction, the factors add up to 1 for each number.
    table = Table([tops for tops, _ in parts], costs, [4 * k + 3 for k in range(many)], [1] * many)
    belows = [below for _, below in parts]
    while True:
        column = table.cheaper(len(rows))
        if column is None:
            numbers = [pair_of((-price, table.below * scale)) for price in table.prices()]
            amounts = [(at, row[0]) for at, row in zip(table.used, table.rows)]
            return numbers, _spread(amounts, belows, table.below)
        weights = table.weights(column)
        if not table.take(column, weights):
            amounts = [(column, table.below)] + [(at, -weight) for at, weight in zip(table.used, weights)]
            total = sum([costs[at] * amount for at, amount in amounts])
            return None, [times(scale, number) for number in _spread(amounts, belows, -total)]


def _cross(one, other):
    return minus(times(one[0], other[1]), times(one[1], other[0]))


def _is_low(direction):
    """Whether a direction points below, or straight to the left."""
    x, y = direction
    return lower(y, 0) or (y[0] == 0 and lower(x, 0))


def _unit(many, at):
    """The sum that is the number with this index."""
    return [(1, 1) if k == at else (0, 1) for k in range(many + 1)]


def _mixed(parts):
    """The sum of all rows of pairs (factor, row), each times its factor."""
    return [_total([times(factor, row[k]) for factor, row in parts]) for k in range(len(parts[0][1]))]


def _total(numbers):
    found = (0, 1)
    for number in numbers:
        found = plus(found, number)
    return found


def _crossing_sums(directions, k):
    """The two sums that are the numbers of a corner."""
    many = len(directions)
    (a, b), (c, d) = directions[k], directions[(k + 1) % many]
    turn = _cross((a, b), (c, d))
    one, other = _unit(many, k), _unit(many, (k + 1) % many)
    return (
        _mixed([(share(d, turn), one), (share(minus(0, b), turn), other)]),
        _mixed([(share(minus(0, c), turn), one), (share(a, turn), other)]),
    )


def _inwards(matrix, shift, direction, corner):
    """The sum that tells how fast the flow goes against a direction at a corner."""
    (a, b, c, d), (e, f), (u, v), (x, y) = matrix, shift, direction, corner
    one = _unit(len(x) - 1, len(x) - 1)
    return _mixed([
        (minus(0, plus(times(u, a), times(v, c))), x),
        (minus(0, plus(times(u, b), times(v, d))), y),
        (minus(0, plus(times(u, e), times(v, f))), one),
    ])


def _greatest_at(u, v, points):
    """The greatest value of u * x + v * y at these points."""
    values = [plus(times(u, x), times(v, y)) for x, y in points]
    found = values[0]
    for value in values:
        found = value if lower(found, value) else found
    return found


def _spread(amounts, belows, below):
    """The shares of all sums: these amounts of columns, each a sum times an integer; divided by one integer."""
    found = {at: amount * belows[at] for at, amount in amounts}
    return [pair_of((found.get(at, 0), below)) for at in range(len(belows))]
