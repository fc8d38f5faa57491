"""Rows of corners: polygons that go once around an inside.

A *grid row* is a row of corners as integer points: each axis is stretched by an integer, for all rows together.
This leaves as they are on which side of a line a point lies, and what meets.
"""

from flowpapers.kinds import is_place, pair_of, place_of
from flowpapers.ratios import minus
from flowpapers.wholes import whole_row


def border_of(value):
    """A row of corners as it is told, None for any value that is none."""
    if not isinstance(value, (tuple, list)) or len(value) < 3 or not all([is_place(place) for place in value]):
        return None
    places = tuple([place_of(place) for place in value])
    return places if _goes_once(grid_of([places])[0]) else None


def closed_row_of(value):
    """A row of two or more places, neighbors unlike, as it is told, None for any value that is none."""
    if not isinstance(value, (tuple, list)) or len(value) < 2 or not all([is_place(place) for place in value]):
        return None
    places = tuple([place_of(place) for place in value])
    return places if all([start != end for start, end in sides_of(places)]) else None


def grid_of(rows):
    """The grid rows of rows of places."""
    wide, _ = whole_row([place[0] for row in rows for place in row])
    high, _ = whole_row([place[1] for row in rows for place in row])
    points = list(zip(wide, high))
    found, start = [], 0
    for row in rows:
        found.append(points[start:start + len(row)])
        start = start + len(row)
    return found


def sides_of(places):
    """The sides of a row of corners, from the first corner on."""
    return list(zip(places, places[1:] + places[:1]))


def step_between(start, end):
    """The way from a place to another one."""
    return minus(end[0], start[0]), minus(end[1], start[1])


def turned_sides(places, is_against):
    """The sides from the first corner on, against the clock or with it."""
    goes_against = _twice_area(grid_of([places])[0]) > 0
    return sides_of(places if goes_against == is_against else places[:1] + places[:0:-1])


def area_of(places):
    """The area inside a row of corners."""
    wide, below = whole_row([x for x, _ in places])
    high, further_below = whole_row([y for _, y in places])
    return pair_of((abs(_twice_area(list(zip(wide, high)))), 2 * below * further_below))


def where(point, row):
    """1 for an integer point inside a grid row, 0 for one on it, -1 for all others."""
    x, y = point
    found = -1
    for (a, b), (c, d) in sides_of(row):
        if (b > y) != (d > y):
            # The side crosses the line that goes from the point to the left and to the right.
            turn = (c - a) * (y - b) - (d - b) * (x - a)
            if turn == 0:
                return 0
            if (turn > 0) == (d > y):
                found = -found
        elif b == y and (a == x or (d == y and (a > x) != (c > x))):
            return 0
    return found


def has_apart(rows):
    """Whether the last grid row lies strictly inside the first one, and apart from all others, as a whole."""
    last = rows[-1]
    edges = _edges(last)
    for row in rows[:-1]:
        if _have_meeting(edges, _edges(row)):
            return False
    if where(last[0], rows[0]) != 1:
        return False
    return all([where(last[0], row) == -1 and where(row[0], last) == -1 for row in rows[1:-1]])


def _goes_once(row):
    """Whether no three neighbors of a grid row lie on one line, and only neighboring sides meet."""
    many = len(row)
    if not all([_turn(row[k - 2], row[k - 1], point) for k, point in enumerate(row)]):
        return False
    # Neighbors that are not on one line have their corner in common, and no other point.
    edges = _edges(row)
    for k in range(many - 2):
        if _have_meeting(edges[k:k + 1], edges[k + 2:many - 1 if k == 0 else many]):
            return False
    return True


def _edges(row):
    """The sides of a grid row, with the least and the greatest x and y of each ahead of its ends."""
    return [
        (a if a < c else c, c if a < c else a, b if b < d else d, d if b < d else b, (a, b), (c, d))
        for (a, b), (c, d) in sides_of(row)
    ]


def _have_meeting(edges, others):
    """Whether one of these sides has a point in common with one of the others."""
    for left, right, low, high, a, b in edges:
        for other_left, other_right, other_low, other_high, c, d in others:
            if left <= other_right and other_left <= right and low <= other_high and other_low <= high:
                # The boxes around both meet: so do the sides unless one lies on one side of the other's line.
                if _turn(a, b, c) * _turn(a, b, d) <= 0 and _turn(c, d, a) * _turn(c, d, b) <= 0:
                    return True
    return False


def _turn(a, b, c):
    """1 if c lies to the left of the way from a to b, -1 if to the right, 0 if on its line: integer points."""
    found = (b[0] - a[0]) * (c[1] - a[1]) - (b[1] - a[1]) * (c[0] - a[0])
    if found == 0:
        return 0
    return 1 if found > 0 else -1


def _twice_area(row):
    """Twice the area inside a grid row, below 0 if it goes with the clock."""
    return sum([a * d - b * c for (a, b), (c, d) in sides_of(row)])
