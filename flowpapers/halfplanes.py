"""Triangles on which some sum of two Planes with factors is above 0: the search for them.

On a triangle both Planes have a net, both over one bottom; a *vector* is a corner of the first one and the same
corner of the other one. Factors (a, b) for which a * p + b * q has a lesser degree than p and q have are *weak*:
there is one direction of them, or none.
"""

from flowpapers.covers import trees_from
from flowpapers.nets import bends_of, halved_net, lines_of
from flowpapers.ratios import minus, share, times

# To so many bits factors are rounded, if that does.
SHORT = (2, 4, 8, 16, 32, 64)


def weak_direction(p, q):
    """A pair of ratios that is weak; all others are multiples of it. None if no pair is."""
    degrees = (p.degree(), q.degree())
    if max(degrees) < 1:
        return None
    if degrees[0] != degrees[1]:
        return ((0, 1), (1, 1)) if degrees[0] > degrees[1] else ((1, 1), (0, 1))
    one, other = _lead_numbers(p), _lead_numbers(q)
    at = [k for k, (top, _) in enumerate(other) if top != 0][0]
    factor = share(one[at], other[at])
    if one == [times(factor, number) for number in other]:
        return (1, 1), minus(0, factor)
    return None


def parted(nets, degree, weak):
    """(trees, pairs): one tree for each pair of nets, and factors for each triangle to which they lead.

    All corners of the sum with these factors are above 0 there. Both Planes are nowhere 0 together.
    """
    sides = lines_of(degree)
    bends = bends_of(sides)
    nodes, cuts, pairs = list(nets), {}, []
    todo = list(reversed(range(len(nodes))))
    while todo:
        place = todo.pop()
        one, other = nodes[place]
        pair = factors_above(one, other, weak)
        # Nets are long, and this one is used no more.
        nodes[place] = None
        if pair is not None:
            pairs.append(((pair[0], 1), (pair[1], 1)))
        else:
            side = _most_bent_side(one, other, bends)
            first = len(nodes)
            cuts[place] = (side, first)
            nodes.extend(list(zip(halved_net(one, sides[side], degree), halved_net(other, sides[side], degree))))
            todo.append(first + 1)
            todo.append(first)
    return trees_from(cuts, len(nodes), len(nets)), tuple(pairs)


def factors_above(one, other, weak):
    """Factors (a, b), integers, not weak, such that a * one + b * other is above 0 at all corners; None without."""
    ends = _ends_around(list(zip(one, other)))
    if ends is None:
        return None
    (a, b), (c, d) = ends
    # To the left of the first end and to the right of the last one; twice, in case that one of both is weak.
    found = [(d - b, a - c), (d - 2 * b, 2 * a - c)] if (a, b) != (c, d) else [(a, b), (a - b, a + b)]
    for x, y in found:
        size = max(abs(x), abs(y)).bit_length()
        for bits in SHORT:
            if bits < size:
                short = (x >> (size - bits), y >> (size - bits))
                if not is_weak(short, weak) and _is_above_all(short, one, other):
                    return short
    return found[1] if is_weak(found[0], weak) else found[0]


def is_weak(pair, weak):
    """Whether a pair of integers is weak."""
    if weak is None:
        return False
    (top, bottom), (other, other_bottom) = weak
    return pair[0] * other * bottom == pair[1] * top * other_bottom


def _lead_numbers(plane):
    """The numbers of the powers with the greatest i + j."""
    degree = plane.degree()
    rows = [plane.rows[i] if i < len(plane.rows) else () for i in range(degree + 1)]
    return [row[degree - i] if degree - i < len(row) else (0, 1) for i, row in enumerate(rows)]


def _is_above_all(pair, one, other):
    a, b = pair
    return min([a * x + b * y for x, y in zip(one, other)]) > 0


def _ends_around(vectors):
    """The ends, about as long as each other, of the least angle of less than half a turn that holds all vectors.

    The second one is reached from the first one against the clock. None if there is no such angle.
    """
    a, b = vectors[0]
    c, d = a, b
    if (a, b) == (0, 0):
        return None
    for x, y in vectors[1:]:
        ahead, behind = a * y - b * x, c * y - d * x
        if ahead > 0 and behind > 0:
            c, d = x, y
        elif ahead < 0 and behind < 0:
            a, b = x, y
        elif ahead < 0 or behind > 0:
            return None
        elif ahead == 0 and behind == 0 and a * x + b * y <= 0:
            return None
    shift = max(abs(a), abs(b)).bit_length() - max(abs(c), abs(d)).bit_length()
    if a * d == b * c:
        return (a, b), (a, b)
    if shift > 0:
        return (a, b), (c << shift, d << shift)
    return (a << -shift, b << -shift), (c, d)


def _most_bent_side(one, other, bends):
    """The side along whose lines both nets, each seen as long as the other, bend most."""
    sizes = [max([abs(number) for number in net]) for net in (one, other)]
    most = [
        max([abs(one[a] - 2 * one[b] + one[c]) * sizes[1] + abs(other[a] - 2 * other[b] + other[c]) * sizes[0]
             for a, b, c in triples], default=0)
        for triples in bends
    ]
    return most.index(max(most))
