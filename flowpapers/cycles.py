"""Cycles of fields in rooms, and barriers that no flow passes."""

from flowpapers.errors import BadNumber
from flowpapers.fields import (
    Field, plane_of_powers, power_plane, powers_to, slope_along, stream_out, turned_back,
)
from flowpapers.kinds import check_bits, held, is_from, is_strict_place, pair_of
from flowpapers.leaves import are_barring, are_from_1, sum_or_shares
from flowpapers.norests import Rested, check_trees, is_restless, most_degree, no_rest
from flowpapers.planes import Plane
from flowpapers.ratios import is_ratio, lower
from flowpapers.rooms import Kept, Out, is_kept, kept_or_out
from flowpapers.triangles import Cover, Near, Under, is_cover, never_below_in


class Leaves:
    """Neither the field nor the field turned back is kept: an Out for each."""

    def __init__(self, ahead, back):
        self.ahead = held(ahead)
        self.back = held(back)


class Cycle:
    """A room with one hole keeps the field, or the field turned back, and has no rest: so it has a cycle."""

    def __init__(self, is_back, kept, restless):
        self.is_back = held(is_back)
        self.kept = held(kept)
        self.restless = held(restless)


class AtMost:
    """A room has at most so many cycles: with this sign the stream out of the field times a factor is covered."""

    def __init__(self, many, sign, cover):
        self.many = held(many)
        self.sign = held(sign)
        self.cover = held(cover)


class Changes:
    """Points at which the stream out of the field times a factor is above and below 0."""

    def __init__(self, above, below):
        self.above = held(above)
        self.below = held(below)


class Nothing:
    """The stream out of the field times a factor is 0 throughout."""


class Factor:
    """A Plane, times which the field has a stream out of at least 1 at all corners."""

    def __init__(self, plane):
        self.plane = held(plane)


class NoFactor:
    """Shares of corners that show that there is no factor."""

    def __init__(self, shares):
        self.shares = held(shares)


class Barrier:
    """Covers that show that no flow comes from the start to the goal."""

    def __init__(self, start, goal, inside):
        self.start = held(start)
        self.goal = held(goal)
        self.inside = held(inside)


class Fails:
    """The first of the three rooms on which no Cover is told, and a point of it where the Plane is below 0."""

    def __init__(self, which, point):
        self.which = held(which)
        self.point = held(point)


class Unsure:
    """The first of the three rooms on which no Cover is told; there the least value is near to 0."""

    def __init__(self, which):
        self.which = held(which)


def ring_cycle(field, room, bits):
    """A Leaves, a Cycle or a Rested; BadNumber("holes", many), BadNumber("bits", bits), then errors as of no_rest."""
    _check_ring(room)
    check_bits(bits)
    ahead = kept_or_out(field, room)
    is_back = isinstance(ahead, Out)
    paper = kept_or_out(turned_back(field), room) if is_back else ahead
    if isinstance(paper, Out):
        return Leaves(ahead, paper)
    found = no_rest(field, room, bits)
    return found if isinstance(found, Rested) else Cycle(is_back, paper, found)


def is_ring_cycle(field, room, told):
    """Whether told, any value, is a Cycle that is right; BadNumber("holes", many)."""
    _check_ring(room)
    if not isinstance(told, Cycle) or not isinstance(told.is_back, bool) or not isinstance(told.kept, Kept):
        return False
    gone = turned_back(field) if told.is_back else field
    return is_kept(gone, room, told.kept) and is_restless(field, room, told.restless)


def most_cycles(field, room, factor, bits):
    """An AtMost, a Changes, Nothing or Near; BadNumber("bits", bits)."""
    check_bits(bits)
    stream = _stream_times(field, factor)
    if stream.degree() == -1:
        return Nothing()
    ahead = never_below_in(stream, room, bits)
    if isinstance(ahead, Cover):
        return AtMost(len(room.holes), 1, ahead)
    back = never_below_in(-stream, room, bits)
    if isinstance(back, Cover):
        return AtMost(len(room.holes), -1, back)
    if isinstance(ahead, Under) and isinstance(back, Under):
        return Changes(back.place, ahead.place)
    return Near()


def is_most(field, room, factor, told):
    """Whether told, any value, is an AtMost, a Changes or Nothing that is right."""
    stream = _stream_times(field, factor)
    if stream.degree() == -1:
        return isinstance(told, Nothing)
    if isinstance(told, Changes):
        return _is_point(room, told.above) and _is_point(room, told.below) and (
            lower(0, stream.at(told.above)) and lower(stream.at(told.below), 0)
        )
    if not isinstance(told, AtMost) or not is_from(told.many, len(room.holes), len(room.holes)):
        return False
    if not is_from(told.sign, -1, 1) or told.sign == 0:
        return False
    return is_cover(told.sign * stream, room, told.cover)


def factor_on(field, room, trees, degree):
    """A Factor of at most this degree, or a NoFactor; BadRow(trees), BadNumber("degree", degree)."""
    check_trees(room, trees, degree, 0)
    powers = powers_to(0, degree)
    streams = [_stream_times(field, power_plane(i, j)) for i, j in powers]
    numbers, shares = sum_or_shares(streams, _stream_degree(field, degree), room, trees)
    return NoFactor(shares) if numbers is None else Factor(plane_of_powers(powers, numbers))


def is_factor(field, room, trees, degree, told):
    """Whether told, any value, is a Factor or a NoFactor that is right; errors as of factor_on."""
    check_trees(room, trees, degree, 0)
    many = _stream_degree(field, degree)
    if isinstance(told, NoFactor):
        streams = [_stream_times(field, power_plane(i, j)) for i, j in powers_to(0, degree)]
        return are_barring(told.shares, streams, many, room, trees)
    if not isinstance(told, Factor) or not isinstance(told.plane, Plane) or told.plane.degree() > degree:
        return False
    return are_from_1(_stream_times(field, told.plane), many, room, trees)


def barrier(field, room, plane, factor, start, goal, e, bits):
    """A Barrier, a Fails or an Unsure; BadNumber("e", e), BadNumber("bits", bits)."""
    _check_gap(e)
    check_bits(bits)
    covers = []
    for which, one, place in _three(field, room, plane, factor, start, goal, e):
        found = never_below_in(one, place, bits)
        if isinstance(found, Under):
            return Fails(which, found.place)
        if isinstance(found, Near):
            return Unsure(which)
        covers.append(found)
    return Barrier(covers[0], covers[1], covers[2])


def is_barrier(field, room, plane, factor, start, goal, e, told):
    """Whether told, any value, is a Barrier that is right; BadNumber("e", e)."""
    _check_gap(e)
    if not isinstance(told, Barrier):
        return False
    three = _three(field, room, plane, factor, start, goal, e)
    covers = (told.start, told.goal, told.inside)
    return all([is_cover(one, place, cover) for (_, one, place), cover in zip(three, covers)])


def _check_ring(room):
    """BadNumber("holes", many) unless the room has one hole."""
    if len(room.holes) != 1:
        raise BadNumber("holes", len(room.holes))


def _check_gap(e):
    """BadNumber("e", e) for what is no ratio above 0."""
    if not is_ratio(e) or not lower(0, e):
        raise BadNumber("e", e)


def _is_point(room, value):
    """Whether any value is a point of the room, told as values are that are judged."""
    return is_strict_place(value) and room.has(value)


def _stream_times(field, factor):
    """The stream out of the field times a factor."""
    return stream_out(Field(factor * field.p, factor * field.q))


def _stream_degree(field, degree):
    """The degree for which corners are looked at, of streams out of the field times Planes of at most this degree."""
    return max(degree + most_degree(field) - 1, 0)


def _three(field, room, plane, factor, start, goal, e):
    """What must be from 0 on for a barrier, and where."""
    gap = pair_of(e)
    inside = factor * plane - slope_along(field, plane)
    return ("start", -plane, start), ("goal", plane - gap, goal), ("inside", inside, room)
