"""Nets: the corners of a Plane on a triangle, as integers over one bottom, in the order of the triples.

The triples (i, j, k) with i + j + k = degree stand with i descending, and for the same i with j descending.
"""

from math import comb, factorial, gcd

from flowpapers.corner_rows import halves
from flowpapers.planes import moved_whole
from flowpapers.wholes import bottom_of, whole_row


def net_of(plane, triangle, degree):
    """The net on a triangle of places, and its bottom; degree is not below that of plane."""
    (net,), bottom = nets_of([plane], triangle, degree)
    return net, bottom


def nets_of(planes, triangle, degree):
    """The nets of several Planes, all over the same bottom, and this bottom."""
    (a, b, c, d, e, f), stretch = whole_row([number for place in triangle for number in place])
    below = bottom_of([number for plane in planes for row in plane.rows for number in row])
    found = []
    for plane in planes:
        rows = [[top * (below // bottom) for top, bottom in row] for row in plane.rows]
        # With v and w for the shares of the second and the third corner: powers of both become corners.
        numbers, scale = moved_whole(rows, (c - a, e - a, a), (d - b, f - b, b), stretch, degree)
        found.append(_net(numbers, degree))
    bottom = below * scale * factorial(degree)
    shared = bottom
    for net in found:
        for number in net:
            shared = gcd(shared, number)
    return [[number // shared for number in net] for net in found], bottom // shared


def lines_of(degree):
    """For each side its lines: rows of indices in a net, from the side's first corner towards its second one."""
    many = range(degree + 1)
    return (
        [[_index(r, k) for r in range(k, degree + 1)] for k in many],
        [[_index(r, k) for k in range(r + 1)] for r in many],
        [[_index(degree - i, degree - i - j) for i in range(degree + 1 - j)] for j in many],
    )


def tips_of(degree):
    """The indices of the values at the three corners of the triangle."""
    return 0, _index(degree, 0), _index(degree, degree)


def halved_net(net, lines, degree):
    """The nets on both triangles when the side with these lines is halved, their bottom times 2 ** degree."""
    first, second = list(net), list(net)
    for line in lines:
        lows, highs = halves([net[place] for place in line], degree)
        for place, low, high in zip(line, lows, highs):
            first[place] = low
            second[place] = high
    return first, second


def bends_of(sides):
    """For each side all triples of indices that stand next to one another along one of its lines."""
    return [[triple for line in lines for triple in zip(line, line[1:], line[2:])] for lines in sides]


def most_bent(net, bends):
    """The side along whose lines the net bends up most: there corners lie lowest below the values."""
    most = [max([net[a] - 2 * net[b] + net[c] for a, b, c in triples], default=0) for triples in bends]
    return most.index(max(most))


def _net(numbers, degree):
    """The corners, times the factorial of degree, of the powers of v and w with these numbers, a dict."""
    ways = [[comb(many, some) for some in range(many + 1)] for many in range(degree + 1)]
    rows = [
        [
            numbers.get((v, w), 0) * factorial(v) * factorial(w) * factorial(degree - v - w)
            for v in range(degree + 1 - w)
        ]
        for w in range(degree + 1)
    ]
    mixed = [
        [sum([way * number for way, number in zip(ways[j], row)]) for j in range(len(row))] for row in rows
    ]
    return [
        sum([way * mixed[w][r - k] for w, way in enumerate(ways[k])])
        for r in range(degree + 1) for k in range(r + 1)
    ]


def _index(r, k):
    return r * (r + 1) // 2 + k
