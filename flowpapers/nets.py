"""Nets: the corners of a Plane on a triangle, as integers over one bottom, in the order of the triples.

The triples (i, j, k) with i + j + k = degree stand with i descending, and for the same i with j descending.
"""

from math import factorial, perm

from flowpapers.corner_rows import halves
from flowpapers.ratios import minus
from flowpapers.wholes import whole_rows


def net_of(plane, triangle, degree):
    """The net on a triangle of places, and its bottom; degree is not below that of plane."""
    (a, b), (c, d), (e, f) = triangle
    steps = (minus(c, a), minus(e, a), minus(d, b), minus(f, b))
    # With v and w for the shares of the second and the third corner: powers of both become corners.
    rows, below = whole_rows(plane.moved(steps, (a, b)).rows)
    net = [_corner(rows, degree, r - k, k) for r in range(degree + 1) for k in range(r + 1)]
    return net, below * factorial(degree)


def lines_of(degree):
    """For each side its lines: rows of indices in a net, from the side's first corner towards its second one."""
    many = range(degree + 1)
    return (
        [[_index(r, k) for r in range(k, degree + 1)] for k in many],
        [[_index(r, k) for k in range(r + 1)] for r in many],
        [[_index(degree - i, degree - i - j) for i in range(degree + 1 - j)] for j in many],
    )


def tips_of(degree):
    """The indices of the values at the three corners of the triangle."""
    return 0, _index(degree, 0), _index(degree, degree)


def halved_net(net, lines, degree):
    """The nets on both triangles when the side with these lines is halved, their bottom times 2 ** degree."""
    first, second = list(net), list(net)
    for line in lines:
        lows, highs = halves([net[place] for place in line], degree)
        for place, low, high in zip(line, lows, highs):
            first[place] = low
            second[place] = high
    return first, second


def bends_of(sides):
    """For each side all triples of indices that stand next to one another along one of its lines."""
    return [[triple for line in lines for triple in zip(line, line[1:], line[2:])] for lines in sides]


def most_bent(net, bends):
    """The side along whose lines the net bends up most: there corners lie lowest below the values."""
    most = [max([net[a] - 2 * net[b] + net[c] for a, b, c in triples], default=0) for triples in bends]
    return most.index(max(most))


def _corner(rows, degree, j, k):
    """The corner (degree - j - k, j, k), times the factorial of degree."""
    return sum([
        number * perm(j, v) * perm(k, w) * factorial(degree - v - w)
        for v, row in enumerate(rows[:j + 1])
        for w, number in enumerate(row[:k + 1])
    ])


def _index(r, k):
    return r * (r + 1) // 2 + k
