"""Corners on all triangles of the trees of a room: sums of Planes that are at least 1 there, or what bars them."""

from flowpapers.covers import leaves_of
from flowpapers.hulls import numbers_or_shares
from flowpapers.kinds import is_strict_ratio, pair_of
from flowpapers.nets import nets_of
from flowpapers.ratios import is_integer, lower, minus, plus, times
from flowpapers.triangles import triangles


def leaf_corners(planes, degree, room, trees):
    """For each triangle of the trees and each of its corners, in order: the values of all planes there.

    They are told as a row of integers and an integer above 0 by which all of them are to be divided.
    """
    found = []
    for triangle, tree in zip(triangles(room), trees):
        nets, bottom = nets_of(planes, triangle, degree)
        for leaf, depth, _ in leaves_of(nets, degree, tree):
            below = bottom << (degree * depth)
            found.extend([([net[at] for net in leaf], below) for at in range(len(leaf[0]))])
    return found


def are_from_1(plane, degree, room, trees):
    """Whether all corners of a Plane are at least 1."""
    return not any([row[0] < below for row, below in leaf_corners([plane], degree, room, trees)])


def span_of(plane, room, trees):
    """The greatest less the least one of all corners of a Plane for its own degree."""
    numbers = [pair_of((row[0], below)) for row, below in leaf_corners([plane], max(plane.degree(), 0), room, trees)]
    least, most = numbers[0], numbers[0]
    for number in numbers:
        least = number if lower(number, least) else least
        most = number if lower(most, number) else most
    return minus(most, least)


def sum_or_shares(planes, degree, room, trees):
    """One of (numbers, None): with these factors the sum of all planes has all corners at least 1;

    (None, shares): triples (triangle, corner, share), with which the corners of each of the planes add up to 0.
    """
    numbers, shares = numbers_or_shares(leaf_corners(planes, degree, room, trees))
    if shares is None:
        return numbers, None
    many = _many_corners(degree)
    return None, tuple([(at // many, at % many, number) for at, number in shares])


def are_barring(told, planes, degree, room, trees):
    """Whether told, any value, are shares that bar all sums of the planes."""
    if not isinstance(told, tuple) or not all([_is_triple(row) for row in told]):
        return False
    rows = leaf_corners(planes, degree, room, trees)
    many = _many_corners(degree)
    total, sums, ahead = (0, 1), [(0, 1)] * len(planes), -1
    for triangle, corner, number in told:
        at = triangle * many + corner
        if corner >= many or at >= len(rows) or at <= ahead:
            return False
        ahead = at
        total = plus(total, number)
        row, below = rows[at]
        sums = [plus(one, times(number, (top, below))) for one, top in zip(sums, row)]
    return total == (1, 1) and not any([top for top, _ in sums])


def _many_corners(degree):
    return (degree + 1) * (degree + 2) // 2


def _is_triple(value):
    """Whether any value is a tuple of two integers from 0 on and a ratio above 0."""
    if not isinstance(value, tuple) or len(value) != 3 or not is_strict_ratio(value[2]):
        return False
    return is_integer(value[0]) and is_integer(value[1]) and min(value[:2]) >= 0 and lower(0, value[2])
