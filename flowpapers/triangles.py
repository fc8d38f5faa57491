"""Signs of polynomials of two letters at all points of a room."""

from flowpapers.covers import is_covered, is_tree, searched
from flowpapers.errors import BadNumber, BadRow
from flowpapers.kinds import check_bits, held, is_from, is_place, pair_of, place_of
from flowpapers.nets import net_of
from flowpapers.ratios import minus, plus, times
from flowpapers.strips import triangles_of


class Cover:
    """On each triangle to which these trees lead all corners are from 0 on."""

    def __init__(self, trees):
        self.trees = held(trees)


class Under:
    """A Plane has this number below 0 at a place of the room."""

    def __init__(self, place, number):
        self.place = held(place)
        self.number = held(number)


class Near:
    """The least value in the room lies from -gap to gap."""


def corners(plane, triangle, degree=None):
    """The corners of plane on a triangle for a degree, that of plane if it is None.

    BadRow(triangle), BadNumber("degree", degree).
    """
    places = _told_triangle(triangle)
    if degree is not None and not is_from(degree, max(plane.degree(), 0), 24):
        raise BadNumber("degree", degree)
    many = max(plane.degree(), 0) if degree is None else degree
    net, below = net_of(plane, places, many)
    return tuple([pair_of((top, below)) for top in net])


def halved(triangle, side):
    """The two triangles into which the middle of a side parts a triangle; BadRow(triangle), BadNumber("side", side)."""
    places = _told_triangle(triangle)
    if not is_from(side, 0, 2):
        raise BadNumber("side", side)
    behind = (side + 1) % 3
    middle = _middle(places[side], places[behind])
    first = [middle if k == behind else place for k, place in enumerate(places)]
    second = [middle if k == side else place for k, place in enumerate(places)]
    return tuple(first), tuple(second)


def triangles(room):
    """The triangles of a room, in the order of its strips and pieces."""
    return triangles_of(room.sides)


def never_below_in(plane, room, bits):
    """A Cover or an Under of plane on a room, or Near; BadNumber("bits", bits)."""
    check_bits(bits)
    found = triangles(room)
    degree = max(plane.degree(), 0)
    trees, under = searched([net_of(plane, triangle, degree) for triangle in found], degree, bits)
    if trees is not None:
        return Cover(trees)
    if under is None:
        return Near()
    index, path, tip = under
    triangle = found[index]
    for side, half in path:
        triangle = halved(triangle, side)[half]
    return Under(triangle[tip], plane.at(triangle[tip]))


def is_cover(plane, room, told):
    """Whether told, any value, is a Cover of plane on a room."""
    if not isinstance(told, Cover) or not isinstance(told.trees, tuple):
        return False
    found = triangles(room)
    if len(told.trees) != len(found) or not all([is_tree(tree) for tree in told.trees]):
        return False
    degree = max(plane.degree(), 0)
    for tree, triangle in zip(told.trees, found):
        if not is_covered(net_of(plane, triangle, degree)[0], degree, tree):
            return False
    return True


def _told_triangle(value):
    """A triangle as it is told; BadRow for any value that is none."""
    if not isinstance(value, (tuple, list)) or len(value) != 3 or not all([is_place(place) for place in value]):
        raise BadRow(value)
    a, b, c = [place_of(place) for place in value]
    if times(minus(b[0], a[0]), minus(c[1], a[1])) == times(minus(b[1], a[1]), minus(c[0], a[0])):
        raise BadRow(value)
    return a, b, c


def _middle(place, other):
    return times((1, 2), plus(place[0], other[0])), times((1, 2), plus(place[1], other[1]))
