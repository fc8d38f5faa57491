"""Rooms without rests, and how all flows leave them."""

from flowpapers.covers import are_trees, is_tree, leaves_of, net_along
from flowpapers.errors import BadNumber, BadRow
from flowpapers.fields import plane_of_powers, power_plane, powers_to, slope_along
from flowpapers.halfplanes import is_weak, parted, weak_direction
from flowpapers.kinds import held, is_from, is_strict_place, pair_of
from flowpapers.leaves import are_barring, are_from_1, span_of, sum_or_shares
from flowpapers.nets import net_of
from flowpapers.planes import Plane
from flowpapers.rests import rests
from flowpapers.triangles import triangles
from flowpapers.wholes import whole_row


class Restless:
    """Trees, and for each of their triangles factors with which p and q make a Plane above 0."""

    def __init__(self, trees, pairs):
        self.trees = held(trees)
        self.pairs = held(pairs)


class Rested:
    """The first rest in a room."""

    def __init__(self, rest):
        self.rest = held(rest)


class Rising:
    """A Plane that rises by at least 1 in each unit of time."""

    def __init__(self, plane):
        self.plane = held(plane)


class NotRising:
    """Shares of corners that show that no Plane rises."""

    def __init__(self, shares):
        self.shares = held(shares)


def no_rest(field, room, bits):
    """A Restless, or the Rested with the first rest in the room; BadNumber("bits", bits), Shared(plane)."""
    found = rests(field, room, bits)
    if found:
        return Rested(found[0])
    degree = most_degree(field)
    nets = [_net_pair(field, triangle, degree) for triangle in triangles(room)]
    trees, pairs = parted(nets, degree, weak_direction(field.p, field.q))
    return Restless(trees, pairs)


def is_restless(field, room, told):
    """Whether told, any value, is a Restless that is right."""
    if not isinstance(told, Restless) or not isinstance(told.trees, tuple) or not isinstance(told.pairs, tuple):
        return False
    found = triangles(room)
    if len(told.trees) != len(found) or not all([is_tree(tree) for tree in told.trees]):
        return False
    if not all([is_strict_place(pair) for pair in told.pairs]):
        return False
    degree, weak, first = most_degree(field), weak_direction(field.p, field.q), 0
    for triangle, tree in zip(found, told.trees):
        leaves = leaves_of(_net_pair(field, triangle, degree), degree, tree)
        if first + len(leaves) > len(told.pairs):
            return False
        for (nets, _, path), pair in zip(leaves, told.pairs[first:]):
            if not _is_above_on(field, triangle, nets, path, pair, weak):
                return False
        first = first + len(leaves)
    return first == len(told.pairs)


def rising(field, room, trees, degree):
    """A Rising of at most this degree, or a NotRising; BadRow(trees), BadNumber("degree", degree)."""
    check_trees(room, trees, degree, 1)
    powers = powers_to(1, degree)
    many = degree - 1 + most_degree(field)
    numbers, shares = sum_or_shares(_slopes(field, powers), many, room, trees)
    return NotRising(shares) if numbers is None else Rising(plane_of_powers(powers, numbers))


def is_rising(field, room, trees, degree, told):
    """Whether told, any value, is what rising describes; errors as of rising."""
    check_trees(room, trees, degree, 1)
    many = degree - 1 + most_degree(field)
    if isinstance(told, NotRising):
        return are_barring(told.shares, _slopes(field, powers_to(1, degree)), many, room, trees)
    if not isinstance(told, Rising) or not isinstance(told.plane, Plane) or told.plane.degree() > degree:
        return False
    if told.plane.at((0, 0)) != (0, 1):
        return False
    return are_from_1(slope_along(field, told.plane), many, room, trees)


def leaves_within(field, room, trees, plane):
    """The time within which all flows leave the room, as plane shows it; None if it does not. BadRow(trees)."""
    if not are_trees(trees, len(triangles(room))):
        raise BadRow(trees)
    many = max(plane.degree(), 1) - 1 + most_degree(field)
    if not are_from_1(slope_along(field, plane), many, room, trees):
        return None
    return span_of(plane, room, trees)


def most_degree(field):
    """The greater one of the degrees of p and q, 0 at least."""
    return max(field.p.degree(), field.q.degree(), 0)


def check_trees(room, trees, degree, least):
    """BadRow(trees) for what are no trees of a room, BadNumber("degree", degree) for no integer from least to 6."""
    if not are_trees(trees, len(triangles(room))):
        raise BadRow(trees)
    if not is_from(degree, least, 6):
        raise BadNumber("degree", degree)


def _slopes(field, powers):
    """How the powers change along the flow."""
    return [slope_along(field, power_plane(i, j)) for i, j in powers]


def _net_pair(field, triangle, degree):
    """The nets of p and q on a triangle, both over the same bottom."""
    one, below = net_of(field.p, triangle, degree)
    other, other_below = net_of(field.q, triangle, degree)
    return [number * other_below for number in one], [number * below for number in other]


def _is_above_on(field, triangle, nets, path, pair, weak):
    """Whether all corners of a * p + b * q for its own degree are above 0 on the triangle with this path."""
    (a, b), _ = whole_row([pair_of(number) for number in pair])
    if not is_weak((a, b), weak):
        return min([a * x + b * y for x, y in zip(nets[0], nets[1])]) > 0
    plane = a * field.p + b * field.q
    degree = max(plane.degree(), 0)
    return min(net_along(net_of(plane, triangle, degree)[0], degree, path)) > 0
