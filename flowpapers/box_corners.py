"""Corners of Planes on boxes."""

from math import factorial

from flowpapers.corner_rows import corner_row_on
from flowpapers.kinds import pair_of
from flowpapers.wholes import bottom_of, whole_rows


def corner_range(plane, box):
    """The least and the greatest corner of a Plane on a box, both of which are as they are told."""
    tops, below = whole_rows(plane.rows)
    wide = max([len(row) for row in tops], default=1)
    rows = [row + [0] * (wide - len(row)) for row in tops] or [[0]]
    (a, b), (c, d) = box
    # First in x for each power of y, then in y; both make factors above 0 of their own.
    columns = [corner_row_on([row[j] for row in rows], a, b) for j in range(wide)]
    found = []
    for i in range(len(rows)):
        found.extend(corner_row_on([column[i] for column in columns], c, d))
    factor = below * _factor(len(rows) - 1, a, b) * _factor(wide - 1, c, d)
    return pair_of((min(found), factor)), pair_of((max(found), factor))


def _factor(degree, low, high):
    """The factor that corner_row_on makes."""
    below = bottom_of((low, high))
    found = factorial(degree)
    for _ in range(degree):
        found = found * below
    return found
