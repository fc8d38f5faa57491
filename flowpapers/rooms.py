"""Rooms: polygons, perhaps with polygons cut out."""

from flowpapers.borders import against_clock, are_apart, area_of, backwards, border_of, is_border, sides_of, where
from flowpapers.errors import BadRow
from flowpapers.kinds import is_place, place_of
from flowpapers.ratios import minus


class Room:
    """The points inside a row of corners and on it, but not those inside the holes."""

    def __init__(self, corners, holes=()):
        if not is_border(corners):
            raise BadRow(corners)
        if not isinstance(holes, (tuple, list)):
            raise BadRow(holes)
        self.corners = border_of(corners)
        self.holes = _told_holes(holes, self.corners)
        sides = sides_of(against_clock(self.corners))
        for hole in self.holes:
            sides = sides + sides_of(backwards(against_clock(hole)))
        self.sides = tuple(sides)

    def has(self, place):
        """Whether a place is a point of the room; BadRow(place) for any value that is none."""
        if not is_place(place):
            raise BadRow(place)
        point = place_of(place)
        return where(point, self.corners) >= 0 and not any([where(point, hole) == 1 for hole in self.holes])

    def area(self):
        """The area, without that of the holes."""
        found = area_of(self.corners)
        for hole in self.holes:
            found = minus(found, area_of(hole))
        return found


def _told_holes(holes, corners):
    """The holes as they are told; BadRow(hole) for the first one that is none."""
    found = []
    for hole in holes:
        if not is_border(hole) or not _fits(border_of(hole), corners, found):
            raise BadRow(hole)
        found.append(border_of(hole))
    return tuple(found)


def _fits(hole, corners, earlier):
    """Whether a row of corners lies strictly inside corners, and apart from the earlier ones, as a whole."""
    if not are_apart(hole, corners) or where(hole[0], corners) != 1:
        return False
    return all([
        are_apart(hole, other) and where(hole[0], other) == -1 and where(other[0], hole) == -1 for other in earlier
    ])
