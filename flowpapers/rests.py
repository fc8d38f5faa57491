"""Places of rest of fields, and how often rows go round a place."""

from flowpapers.borders import closed_row_of, grid_of, sides_of
from flowpapers.errors import BadRow, NoRest, NotRound, Shared
from flowpapers.fields import bend_at, field_at, stream_out
from flowpapers.focused import focus_at
from flowpapers.kinds import check_bits, held, is_place, place_of
from flowpapers.linear import kind
from flowpapers.solutions import branches_of, divisor_of, values_of
from flowpapers.signs import zeros_of
from flowpapers.spotted import number_of, spotted, told_ends


class Rest:
    """A rest: between which numbers its x and its y lie, the signs of det and trace, and whether it is on a side."""

    def __init__(self, x, y, det, trace, on_side):
        self.x = held(x)
        self.y = held(y)
        self.det = held(det)
        self.trace = held(trace)
        self.on_side = held(on_side)


def rests(field, room, bits):
    """A Rest for each rest in the room, by x, then by y; BadNumber("bits", bits), Shared(plane)."""
    check_bits(bits)
    shared = divisor_of(field.p, field.q)
    if shared is not None:
        raise Shared(shared)
    if field.p.degree() < 1 or field.q.degree() < 1:
        return ()
    half = _half_of(room)
    c, wide, branches = branches_of(field.p, field.q, half)
    places = []
    for place in spotted(c, wide, branches):
        position = place.position(room.sides)
        if position >= 0:
            places.append((place, position == 0))
    return _told_rests(field, places, half, bits) if places else ()


def kind_at(field, place):
    """The Kind of the slopes at a rest; BadRow(place), NoRest(place)."""
    if not is_place(place):
        raise BadRow(place)
    if field_at(field, place) != ((0, 1), (0, 1)):
        raise NoRest(place)
    (a, b), (c, d) = bend_at(field, place)
    return kind((a, b, c, d))


def focus(field, place):
    """The focus number of a rest with the word round; BadRow(place), NoRest(place), NotRound()."""
    if kind_at(field, place).word != "round":
        raise NotRound()
    return focus_at(field, place_of(place))


def winding(corners, place):
    """How often a closed row goes round a place, None if the place lies on it; BadRow(corners), BadRow(place)."""
    row = closed_row_of(corners)
    if row is None:
        raise BadRow(corners)
    if not is_place(place):
        raise BadRow(place)
    (point,), points = grid_of([[place_of(place)], row])
    found = 0
    for (a, b), (c, d) in sides_of(points):
        turn = (c - a) * (point[1] - b) - (d - b) * (point[0] - a)
        if turn == 0 and _is_between(a, c, point[0]) and _is_between(b, d, point[1]):
            return None
        # Sides that cross the line to the right of the place.
        if b <= point[1] < d and turn > 0:
            found = found + 1
        if d <= point[1] < b and turn < 0:
            found = found - 1
    return found


def _is_between(one, other, number):
    return one <= number <= other or other <= number <= one


def _half_of(room):
    """A power of 2, such that all numbers of corners lie between it and its negative."""
    tops = [abs(top) // bottom for place in room.corners for top, bottom in place]
    return 1 << max(tops).bit_length()


def _told_rests(field, places, half, bits):
    """The Rests of pairs (place, on_side), in their order."""
    det = field.p.slope_x() * field.q.slope_y() - field.p.slope_y() * field.q.slope_x()
    trace = stream_out(field)
    turned = [plane.moved((0, 1, 1, 0), (0, 0)) for plane in (field.p, field.q)]
    wide = zeros_of(values_of(field.p, field.q, half))
    high = zeros_of(values_of(turned[0], turned[1], half))
    found = {}
    for place, on_side in places:
        x, y = number_of(place, wide, half, 0), number_of(place, high, half, 1)
        found[x, y] = Rest(
            told_ends(wide[x], half, bits), told_ends(high[y], half, bits),
            place.sign_at(det), place.sign_at(trace), on_side,
        )
    return tuple([found[numbers] for numbers in sorted(found)])
