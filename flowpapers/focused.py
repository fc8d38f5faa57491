"""Focus numbers of rests."""

from flowpapers.fields import Field, equations_of, power_plane, slope_along
from flowpapers.kinds import pair_of
from flowpapers.lowest import lowest_form
from flowpapers.planes import Plane
from flowpapers.ratios import lower, minus, times


def focus_at(field, place):
    """The focus number of a rest with the word round."""
    p, q = [plane.moved((1, 0, 0, 1), place) for plane in (field.p, field.q)]
    # The parts of degree 1, 2 and 3 of the field around the rest.
    first, second, third = [Field(_part(p, degree), _part(q, degree)) for degree in (1, 2, 3)]
    start = _start(first)
    cubes, squares = _powers_of(3), _powers_of(4)
    row = lowest_form(equations_of([slope_along(second, start)] + [slope_along(first, one) for one in cubes]), 5)[0]
    cube = Plane(())
    for number, one in zip(row[1:], cubes):
        cube = cube + number * one
    # What the slope has in terms of degree 4, less the focus number times start * start, is made up by a last part.
    given = slope_along(second, cube) + slope_along(third, start)
    planes = [given, -(start * start)] + [slope_along(first, one) for one in squares]
    return pair_of(lowest_form(equations_of(planes), 7)[0][1])


def _start(field):
    """The form that never changes along the part of degree 1, above 0 but at (0, 0)."""
    a, b, c = field.p.at((1, 0)), field.p.at((0, 1)), field.q.at((1, 0))
    form = Plane(((0, 0, minus(0, b)), (0, times(-2, a)), (c,)))
    return form if lower(0, c) else -form


def _part(plane, degree):
    """The terms of this degree."""
    return Plane([
        [number if i + j == degree else 0 for j, number in enumerate(row)] for i, row in enumerate(plane.rows)
    ])


def _powers_of(degree):
    """The powers of two letters of this degree, each as a Plane."""
    return [power_plane(degree - j, j) for j in range(degree + 1)]
