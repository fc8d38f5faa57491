"""Judges of papers, by plain sums of Fractions of their own; and values with one thing changed."""

from fractions import Fraction

import reference as ref
from flowpapers.cycles import AtMost, Barrier, Changes, Cycle, Factor, NoFactor, Nothing
from flowpapers.fields import Field
from flowpapers.linear import Apart, Common, LeastRoom, NoRoom
from flowpapers.norests import NotRising, Restless, Rising
from flowpapers.planes import Plane
from flowpapers.polys import Poly
from flowpapers.rooms import Kept, Out
from flowpapers.stretches import Split
from flowpapers.triangles import Cover, triangles
from flowpapers.tubes import Tube


# Values that are judged: ratios are integers, or tuples of two integers with the second one above 0.

def is_whole(value):
    return type(value) is int


def is_strict(value):
    return is_whole(value) or (
        type(value) is tuple and len(value) == 2 and is_whole(value[0]) and is_whole(value[1]) and value[1] > 0)


def is_strict_row(value, many=None):
    return type(value) is tuple and all(is_strict(number) for number in value) and many in (None, len(value))


def fractions(row):
    return [ref.fraction(number) for number in row]


def is_tree(value):
    if type(value) is not tuple:
        return False
    return value == () or (
        len(value) == 3 and is_whole(value[0]) and value[0] in (0, 1, 2) and is_tree(value[1]) and is_tree(value[2]))


# Papers.

def flows_in(field, room):
    """For each side the numbers of what flows in along it, as Fractions."""
    found = []
    p, q = ref.table(field.p.rows), ref.table(field.q.rows)
    for (a, b), (c, d) in (ref.places(side) for side in room.sides):
        over = {power: number for power, number in {(0, 0): a, (1, 0): c - a}.items() if number}
        up = {power: number for power, number in {(0, 0): b, (1, 0): d - b}.items() if number}
        one = ref.added(ref.scaled(ref.put_in(q, over, up), c - a), ref.scaled(ref.put_in(p, over, up), d - b), -1)
        degree = max((i for i, _ in one), default=-1)
        found.append([one.get((i, 0), Fraction(0)) for i in range(degree + 1)])
    return found


def is_split_right(numbers, told):
    if type(told) is not Split or type(told.root) is not Poly or type(told.rest) is not Poly or not is_strict_row(told.cuts):
        return False
    if Poly([ref.pair(number) for number in numbers]) != told.rest * told.root * told.root:
        return False
    ends = [Fraction(0), *fractions(told.cuts), Fraction(1)]
    if any(low >= high for low, high in zip(ends, ends[1:])):
        return False
    return all(min(ref.stretch_corners(told.rest.numbers, low, high)) >= 0 for low, high in zip(ends, ends[1:]))


def is_kept_right(field, room, told):
    flows = flows_in(field, room)
    if type(told) is Kept:
        return type(told.papers) is tuple and len(told.papers) == len(flows) and all(
            is_split_right(numbers, paper) for numbers, paper in zip(flows, told.papers))
    if type(told) is not Out or not is_whole(told.side) or not 0 <= told.side < len(flows):
        return False
    if not is_strict(told.at) or not is_strict(told.number):
        return False
    at, number = ref.fraction(told.at), ref.fraction(told.number)
    return 0 <= at <= 1 and number < 0 and number == ref.poly_value([ref.pair(one) for one in flows[told.side]], at)


def leaves(room, trees):
    """The triangles of the trees."""
    return [leaf for triangle, tree in zip(triangles(room), trees) for leaf in ref.leaves(tree, ref.places(triangle))]


def are_trees_right(room, trees):
    return type(trees) is tuple and len(trees) == len(triangles(room)) and all(is_tree(tree) for tree in trees)


def degree_of(one):
    return max((i + j for i, j in one), default=0)


def is_cover_right(plane, room, told):
    if type(told) is not Cover or not are_trees_right(room, told.trees):
        return False
    one = ref.table(plane.rows)
    return all(min(ref.triangle_corners(one, leaf, degree_of(one))) >= 0 for leaf in leaves(room, told.trees))


def is_restless_right(field, room, told):
    if type(told) is not Restless or not are_trees_right(room, told.trees) or type(told.pairs) is not tuple:
        return False
    found = leaves(room, told.trees)
    if len(told.pairs) != len(found) or not all(is_strict_row(pair, 2) for pair in told.pairs):
        return False
    p, q = ref.table(field.p.rows), ref.table(field.q.rows)
    for (a, b), leaf in zip(told.pairs, found):
        one = ref.added(ref.scaled(p, ref.fraction(a)), ref.scaled(q, ref.fraction(b)))
        if min(ref.triangle_corners(one, leaf, degree_of(one))) <= 0:
            return False
    return True


def most_degree(field):
    return max(degree_of(ref.table(plane.rows)) for plane in (field.p, field.q))


def power(i, j):
    return {(i, j): Fraction(1)}


def powers(least, most):
    return [(i, j) for i in range(most + 1) for j in range(most + 1) if least <= i + j <= most]


def along(field, one):
    return ref.along(ref.table(field.p.rows), ref.table(field.q.rows), one)


def stream(field, one):
    """The stream out of the field times a polynomial."""
    p, q = (ref.multiplied(one, ref.table(plane.rows)) for plane in (field.p, field.q))
    return ref.added(ref.slope_x(p), ref.slope_y(q))


def are_shares_right(told, planes, degree, room, trees):
    """Whether shares bar that a sum of some polynomials has all corners above 0."""
    if type(told) is not tuple:
        return False
    for row in told:
        if type(row) is not tuple or len(row) != 3 or not is_whole(row[0]) or not is_whole(row[1]) or not is_strict(row[2]):
            return False
    keys = [row[:2] for row in told]
    found, many = leaves(room, trees), (degree + 1) * (degree + 2) // 2
    if keys != sorted(set(keys)) or not all(0 <= one < len(found) and 0 <= other < many for one, other in keys):
        return False
    numbers = fractions([row[2] for row in told])
    if sum(numbers) != 1 or not all(number > 0 for number in numbers):
        return False
    return all(
        sum(number * ref.triangle_corners(one, found[at], degree)[corner] for number, (at, corner) in zip(numbers, keys)) == 0
        for one in planes
    )


def are_from_1(one, degree, room, trees):
    return all(min(ref.triangle_corners(one, leaf, degree)) >= 1 for leaf in leaves(room, trees))


def is_rising_right(field, room, trees, degree, told):
    many = degree - 1 + most_degree(field)
    if type(told) is NotRising:
        return are_shares_right(told.shares, [along(field, power(*at)) for at in powers(1, degree)], many, room, trees)
    if type(told) is not Rising or type(told.plane) is not Plane:
        return False
    one = ref.table(told.plane.rows)
    return degree_of(one) <= degree and (0, 0) not in one and are_from_1(along(field, one), many, room, trees)


# Linear flows.

def slope_of(matrix, form):
    """The slope of a form, by the flow at three places."""
    a, b, c, d = fractions(matrix)
    p, q, r = form

    def at(x, y):
        return (2 * p * x + 2 * q * y) * (a * x + b * y) + (2 * q * x + 2 * r * y) * (c * x + d * y)
    return at(1, 0), (at(1, 1) - at(1, 0) - at(0, 1)) / 2, at(0, 1)


def is_above(form):
    p, q, r = form
    return p > 0 and p * r - q * q > 0


def inverse(matrix):
    a, b, c, d = fractions(matrix)
    return [number / (a * d - b * c) for number in (d, -b, -c, a)]


def is_common_right(one, other, told):
    if type(told) is Common:
        if not is_strict_row(told.form, 3):
            return False
        form = fractions(told.form)
        return is_above(form) and all(is_above([-number for number in slope_of(matrix, form)]) for matrix in (one, other))
    if type(told) is not Apart or type(told.way) is not str or told.way not in ("with", "against") or not is_strict(told.t):
        return False
    t = ref.fraction(told.t)
    turned = fractions(other) if told.way == "with" else inverse(other)
    a, b, c, d = [t * number + (1 - t) * further for number, further in zip(fractions(one), turned)]
    return 0 < t < 1 and a * d - b * c <= 0


def sums_at(matrix, shift, directions, points, numbers):
    """All four sums of each direction for a room with these numbers, by its corners."""
    a, b, c, d = fractions(matrix)
    e, f = fractions(shift)
    ways, many = [fractions(way) for way in directions], len(directions)
    corners = []
    for k in range(many):
        (u, v), (w, z) = ways[k], ways[(k + 1) % many]
        one, other, turn = numbers[k], numbers[(k + 1) % many], u * z - v * w
        corners.append(((one * z - other * v) / turn, (u * other - w * one) / turn))
    found = []
    for k, (u, v) in enumerate(ways):
        (x, y), (x_ahead, y_ahead) = corners[k], corners[k - 1]
        most = max(u * ref.fraction(one) + v * ref.fraction(other) for one, other in points)
        found.append((
            (x - x_ahead) * -v + (y - y_ahead) * u,
            -(u * (a * x_ahead + b * y_ahead + e) + v * (c * x_ahead + d * y_ahead + f)),
            -(u * (a * x + b * y + e) + v * (c * x + d * y + f)),
            numbers[k] - most,
        ))
    return found


def is_least_right(matrix, shift, directions, points, told):
    many = len(directions)
    if type(told) not in (LeastRoom, NoRoom) or type(told.shares) is not tuple or len(told.shares) != many:
        return False
    if not all(is_strict_row(row, 4) for row in told.shares):
        return False
    shares = [fractions(row) for row in told.shares]
    if any(number < 0 for row in shares for number in row):
        return False

    def total(numbers):
        rows = sums_at(matrix, shift, directions, points, numbers)
        return sum(share * one for row, line in zip(shares, rows) for share, one in zip(row, line))
    # What is told holds for whatever numbers if it does for none and for each one alone.
    units = [[Fraction(int(k == at)) for k in range(many)] for at in range(-1, many)]
    if type(told) is NoRoom:
        return all(total(unit) == -1 for unit in units)
    if not is_strict_row(told.numbers, many):
        return False
    numbers = fractions(told.numbers)
    if any(one < 0 for row in sums_at(matrix, shift, directions, points, numbers) for one in row):
        return False
    return all(total(unit) == sum(unit) - sum(numbers) for unit in units)


# Boxes.

def is_strict_box(value):
    return type(value) is tuple and len(value) == 2 and all(is_strict_row(pair, 2) for pair in value) and all(
        ref.fraction(low) <= ref.fraction(high) for low, high in value)


def box_of(value):
    return tuple(tuple(fractions(pair)) for pair in value)


def range_of(one, box):
    """The least and the greatest corner on a box, by the definition: the table solves it at all powers."""
    from math import comb
    (a, b), (c, d) = box
    over = {power: number for power, number in {(0, 0): a, (1, 0): b - a}.items() if number}
    up = {power: number for power, number in {(0, 0): c, (0, 1): d - c}.items() if number}
    moved = ref.put_in(one, over, up)
    m, n = max((i for i, _ in one), default=0), max((j for _, j in one), default=0)
    found = [
        sum((Fraction(comb(i, k) * comb(j, h), comb(m, k) * comb(n, h)) * moved.get((k, h), 0)
             for k in range(i + 1) for h in range(j + 1)), Fraction(0))
        for i in range(m + 1) for j in range(n + 1)
    ]
    return min(found), max(found)


def does_stay(field, box, time, room):
    for (low, high), (least, most), plane in zip(box, room, (field.p, field.q)):
        down, up = range_of(ref.table(plane.rows), room)
        if low + time * min(0, down) < least or high + time * max(0, up) > most:
            return False
    return True


def series(field, order):
    found = [(power(1, 0), power(0, 1))]
    for k in range(order):
        found.append(tuple(ref.scaled(along(field, one), Fraction(1, k + 1)) for one in found[-1]))
    return found


def ends_behind(field, box, time, room, order):
    pairs = series(field, order)
    found = []
    for letter in (0, 1):
        total = {}
        for k in range(order):
            total = ref.added(total, pairs[k][letter], time ** k)
        low, high = range_of(total, box)
        least, most = range_of(pairs[order][letter], room)
        found.append((low + time ** order * least, high + time ** order * most))
    return tuple(found)


def is_inside(box, other):
    return all(least <= low and high <= most for (low, high), (least, most) in zip(box, other))


def is_tube_right(field, box, time, order, told):
    if type(told) is not Tube or type(told.rooms) is not tuple or type(told.boxes) is not tuple:
        return False
    if len(told.rooms) != len(told.boxes) or not told.rooms or not all(is_strict_box(one) for one in told.rooms + told.boxes):
        return False
    ahead, step = box_of(box), ref.fraction(time)
    for room, end in zip(map(box_of, told.rooms), map(box_of, told.boxes)):
        if not does_stay(field, ahead, step, room) or not is_inside(ends_behind(field, ahead, step, room, order), end):
            return False
        ahead = end
    return True


# Values with one thing changed.

def bent(value, depth=6):
    """Values that differ from this one in one place; some of them mean the same in other terms."""
    if type(value) is bool:
        yield from (not value, int(value), None)
    elif type(value) is int:
        yield from (value + 1, value - 1, -value, (value, 1), (2 * value, 2), [value, 1], True, None, str(value), Fraction(value),
                    (value, -1), (value, 0))
    elif type(value) is str:
        yield from (value + " ", "", None, value.upper(), [value])
    elif type(value) is tuple:
        yield from bent_tuple(value, depth)
    elif isinstance(value, (Plane, Poly)):
        yield from (value + 1, value - 1, 2 * value, value * (1, 2), -value, None, 0, type(value)(()), value * value)
    elif value is not None:
        yield from bent_object(value, depth)


def bent_tuple(value, depth):
    yield from ((), None, list(value), value + value[-1:] if value else (None,), value + (None,), value[::-1], 0, "ab", object())
    if len(value) == 2 and all(type(part) is int for part in value):
        yield from ((3 * value[0], 3 * value[1]), (-value[0], -value[1]), (value[0] * 10 ** 30 + 1, value[1] * 10 ** 30))
    for k in range(len(value)):
        yield value[:k] + value[k + 1:]
        if k and value[k] != value[k - 1]:
            yield value[:k - 1] + (value[k], value[k - 1]) + value[k + 1:]
        if depth:
            for other in bent(value[k], depth - 1):
                yield value[:k] + (other,) + value[k + 1:]


def bent_object(value, depth):
    names = list(vars(value))
    for name in names:
        for other in bent(getattr(value, name), depth):
            yield type(value)(*[other if one == name else getattr(value, one) for one in names])
        for odd in ref.ODD + (value, type(value)):
            yield type(value)(*[odd if one == name else getattr(value, one) for one in names])


def sampled(values, many):
    """At most about so many of the values, spread over all of them."""
    found = list(values)
    return found[::max(1, len(found) // many)]


# Cycles and barriers.

def is_most_right(field, room, factor, told):
    one = stream(field, ref.table(factor.rows))
    if not one:
        return type(told) is Nothing
    if type(told) is Changes:
        if not is_strict_row(told.above, 2) or not is_strict_row(told.below, 2):
            return False
        return room.has(told.above) and room.has(told.below) and (
            ref.value(one, *fractions(told.above)) > 0 > ref.value(one, *fractions(told.below)))
    if type(told) is not AtMost or not is_whole(told.many) or told.many != len(room.holes):
        return False
    if not is_whole(told.sign) or told.sign not in (1, -1):
        return False
    return is_cover_right(Plane(ref.rows_of(ref.scaled(one, told.sign))), room, told.cover)


def is_factor_right(field, room, trees, degree, told):
    many = max(degree + most_degree(field) - 1, 0)
    if type(told) is NoFactor:
        return are_shares_right(told.shares, [stream(field, power(*at)) for at in powers(0, degree)], many, room, trees)
    if type(told) is not Factor or type(told.plane) is not Plane:
        return False
    one = ref.table(told.plane.rows)
    return degree_of(one) <= degree and are_from_1(stream(field, one), many, room, trees)


def barrier_planes(field, plane, factor, e):
    """The three Planes that must be from 0 on."""
    one, gap = ref.table(plane.rows), {(0, 0): ref.fraction(e)}
    inside = ref.added(ref.multiplied(ref.table(factor.rows), one), along(field, one), -1)
    return [Plane(ref.rows_of(part)) for part in (ref.scaled(one, -1), ref.added(one, gap, -1), inside)]


def is_barrier_right(field, room, plane, factor, start, goal, e, told):
    if type(told) is not Barrier:
        return False
    planes = barrier_planes(field, plane, factor, e)
    return all(is_cover_right(one, place, cover) for one, place, cover in zip(
        planes, (start, goal, room), (told.start, told.goal, told.inside)))


def is_ring_cycle_right(field, room, told):
    if type(told) is not Cycle or type(told.is_back) is not bool or type(told.kept) is not Kept:
        return False
    gone = Field(-field.p, -field.q) if told.is_back else field
    return is_kept_right(gone, room, told.kept) and is_restless_right(field, room, told.restless)
