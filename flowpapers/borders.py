"""Rows of corners: polygons that go once around an inside. Places are pairs of pairs here."""

from flowpapers.kinds import is_place, place_of
from flowpapers.ratios import lower, minus, plus, times


def is_border(value):
    """Whether any value is a row of corners."""
    if not isinstance(value, (tuple, list)) or len(value) < 3 or not all([is_place(place) for place in value]):
        return False
    places = border_of(value)
    many = len(places)
    if not all([_turn(places[k - 2], places[k - 1], place) for k, place in enumerate(places)]):
        return False
    # Neighbors that are not on one line have their corner in common, and no other point.
    sides = sides_of(places)
    for k, side in enumerate(sides):
        for further in sides[k + 2:many - 1 if k == 0 else many]:
            if _meet(side, further):
                return False
    return True


def border_of(value):
    """A row of corners as it is told."""
    return tuple([place_of(place) for place in value])


def sides_of(places):
    """The sides of a row of corners, from the first corner on."""
    return [(place, places[(k + 1) % len(places)]) for k, place in enumerate(places)]


def against_clock(places):
    """The row from its first corner on, turned so that it goes against the clock."""
    return places if lower(0, _twice_area(places)) else backwards(places)


def backwards(places):
    """The row from its first corner on, the other way round."""
    return places[:1] + places[:0:-1]


def area_of(places):
    """The area inside a row of corners."""
    return times((1, 2), _twice_area(against_clock(places)))


def where(point, places):
    """1 for a point inside a row of corners, 0 for one on it, -1 for all others."""
    sides = sides_of(places)
    if any([_has(side, point) for side in sides]):
        return 0
    # How many sides cross the line that goes from the point to the right.
    crossing = [side for side in sides if _is_above(side[0], point) != _is_above(side[1], point)]
    right = [1 for start, end in crossing if (_turn(start, end, point) > 0) == _is_above(end, point)]
    return 1 if len(right) % 2 == 1 else -1


def are_apart(places, others):
    """Whether two rows of corners have no point in common."""
    return not any([_meet(side, other) for side in sides_of(places) for other in sides_of(others)])


def _turn(a, b, c):
    """1 if c lies to the left of the way from a to b, -1 if to the right, 0 if on its line."""
    left = times(minus(b[0], a[0]), minus(c[1], a[1]))
    right = times(minus(b[1], a[1]), minus(c[0], a[0]))
    if left == right:
        return 0
    return 1 if lower(right, left) else -1


def _has(side, point):
    """Whether a side has a point."""
    a, b = side
    return _turn(a, b, point) == 0 and all([_is_from(a[k], b[k], point[k]) for k in (0, 1)])


def _is_from(one, other, number):
    """Whether a number lies from one to the other one of two numbers, in whatever order."""
    low, high = (other, one) if lower(other, one) else (one, other)
    return not lower(number, low) and not lower(high, number)


def _meet(side, other):
    """Whether two sides have a point in common."""
    (a, b), (c, d) = side, other
    if _turn(a, b, c) * _turn(a, b, d) < 0 and _turn(c, d, a) * _turn(c, d, b) < 0:
        return True
    return _has(side, c) or _has(side, d) or _has(other, a) or _has(other, b)


def _is_above(place, point):
    return lower(point[1], place[1])


def _twice_area(places):
    """Twice the area inside, below 0 if the row goes with the clock."""
    found = (0, 1)
    for (a, b), (c, d) in sides_of(places):
        found = plus(found, minus(times(a, d), times(b, c)))
    return found
