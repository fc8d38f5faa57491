"""Rooms: polygons, perhaps with polygons cut out, and which flows they keep."""

from flowpapers.borders import (
    area_of, border_of, closed_row_of, grid_of, has_apart, sides_of, step_between, turned_sides, where,
)
from flowpapers.errors import BadNumber, BadRow
from flowpapers.fields import Field
from flowpapers.kinds import check_bits, held, is_from, is_place, is_strict_ratio, pair_of, place_of
from flowpapers.ratios import lower, minus
from flowpapers.steps import fewer_steps
from flowpapers.stretches import Below, is_split, never_below
from flowpapers.turns import crossings, first_rest


class Room:
    """The points inside a row of corners and on it, but not those inside the holes."""

    def __init__(self, corners, holes=()):
        border = border_of(corners)
        if border is None:
            raise BadRow(corners)
        if not isinstance(holes, (tuple, list)):
            raise BadRow(holes)
        self.corners = border
        self.holes = _told_holes(holes, border)
        sides = turned_sides(border, True)
        for hole in self.holes:
            sides = sides + turned_sides(hole, False)
        self.sides = tuple(sides)

    def has(self, place):
        """Whether a place is a point of the room; BadRow(place) for any value that is none."""
        if not is_place(place):
            raise BadRow(place)
        rows = grid_of([[place_of(place)], self.corners, *self.holes])
        point = rows[0][0]
        return where(point, rows[1]) >= 0 and not any([where(point, row) == 1 for row in rows[2:]])

    def area(self):
        """The area, without that of the holes."""
        found = area_of(self.corners)
        for hole in self.holes:
            found = minus(found, area_of(hole))
        return found


class Kept:
    """A room keeps all flows of a field: a Split for what flows in along each side."""

    def __init__(self, papers):
        self.papers = held(papers)


class Out:
    """What flows in along a side has this number below 0 at a ratio from 0 to 1."""

    def __init__(self, side, at, number):
        self.side = held(side)
        self.at = held(at)
        self.number = held(number)


class Until:
    """Up to this multiple of the gap a room keeps a field and so often another one together."""

    def __init__(self, number, kept, out):
        self.number = held(number)
        self.kept = held(kept)
        self.out = held(out)


class Turn:
    """How often a field turns along a closed row."""

    def __init__(self, number):
        self.number = held(number)


class AtRest:
    """The first side of a closed row with a rest, and the ends of the least t at which one is."""

    def __init__(self, side, low, high):
        self.side = held(side)
        self.low = held(low)
        self.high = held(high)


def side_flow(field, room, side):
    """What flows in along a side, a Poly; BadNumber("side", side) for what is no index of a side."""
    if not is_from(side, 0, len(room.sides) - 1):
        raise BadNumber("side", side)
    start, end = room.sides[side]
    step = step_between(start, end)
    return step[0] * field.q.along(start, step) - step[1] * field.p.along(start, step)


def kept(field, room):
    """A Kept if the room keeps all flows of the field, otherwise an Out."""
    return kept_or_out(field, room)


def kept_or_out(field, room):
    """What kept tells, for files in which that word means something else."""
    papers = []
    for side in range(len(room.sides)):
        paper = never_below(side_flow(field, room, side))
        if isinstance(paper, Below):
            return Out(side, paper.at, paper.number)
        papers.append(paper)
    return Kept(papers)


def is_kept(field, room, told):
    """Whether told, any value, is a Kept or an Out that is right."""
    sides = range(len(room.sides))
    if isinstance(told, Kept):
        if not isinstance(told.papers, tuple) or len(told.papers) != len(sides):
            return False
        return all([is_split(side_flow(field, room, side), told.papers[side]) for side in sides])
    return isinstance(told, Out) and _is_out(field, room, told)


def kept_until(field, other, room, bits):
    """How many times other, at most, together with field the room keeps: an Until.

    None if all multiples from 0 on, an Out of field if not even that one is kept. BadNumber("bits", bits).
    """
    check_bits(bits)
    first = kept(field, room)
    if isinstance(first, Out):
        return first
    many = None
    for side in range(len(room.sides)):
        many = fewer_steps(side_flow(field, room, side), side_flow(other, room, side), many, bits)
    if many is None:
        return None
    number = pair_of((many, 1 << bits))
    beyond = pair_of((many + 1, 1 << bits))
    return Until(number, kept(_together(field, other, number), room), kept(_together(field, other, beyond), room))


def turning(field, places, bits):
    """A Turn, or an AtRest if the field rests on the closed row; BadRow(places), BadNumber("bits", bits)."""
    row = closed_row_of(places)
    if row is None:
        raise BadRow(places)
    check_bits(bits)
    number = 0
    for side, (start, end) in enumerate(sides_of(row)):
        step = step_between(start, end)
        u, v = field.p.along(start, step), field.q.along(start, step)
        found = first_rest(u, v, bits)
        if found is not None:
            return AtRest(side, found[0], found[1])
        number = number + crossings(u, v)
    return Turn(number)


def _told_holes(holes, corners):
    """The holes as they are told; BadRow(hole) for the first one that is none."""
    found = []
    for hole in holes:
        border = border_of(hole)
        if border is None or not has_apart(grid_of([corners, *found, border])):
            raise BadRow(hole)
        found.append(border)
    return tuple(found)


def _is_out(field, room, told):
    """Whether an Out is right."""
    if not is_from(told.side, 0, len(room.sides) - 1):
        return False
    if not is_strict_ratio(told.at) or not is_strict_ratio(told.number):
        return False
    if lower(told.at, 0) or lower(1, told.at) or not lower(told.number, 0):
        return False
    return side_flow(field, room, told.side).at(told.at) == pair_of(told.number)


def _together(field, other, number):
    """The field and so often the other one."""
    return Field(field.p + number * other.p, field.q + number * other.q)
