"""Where all flows of a box are after a while. Boxes are told as ((a, b), (c, d)), all four of them pairs here."""

from flowpapers.box_corners import corner_range
from flowpapers.errors import BadNumber, BadRow
from flowpapers.fields import series
from flowpapers.kinds import check_bits, held, is_from, is_place, is_strict_place, place_of
from flowpapers.planes import Plane
from flowpapers.ratios import floor_of, is_ratio, lower, plus, times


class Tube:
    """All flows from a box are in these rooms during, and in these boxes at the end of, as many steps of time."""

    def __init__(self, rooms, boxes):
        self.rooms = held(rooms)
        self.boxes = held(boxes)


class Lost:
    """For the step with this number, from 1 on, no room is found; the boxes behind the steps ahead of it."""

    def __init__(self, index, boxes):
        self.index = held(index)
        self.boxes = held(boxes)


def range_on(plane, box):
    """The least and the greatest corner of plane on a box; BadRow(box)."""
    return corner_range(plane, _told_box(box))


def stays(field, box, time, room):
    """Whether all that a step may add to a box, as far as the room tells, lies in the room.

    BadRow(box), BadRow(room), BadNumber("time", time).
    """
    start, place = _told_box(box), _told_box(room)
    _check_time(time)
    return _is_within(_reach(field, start, time, place), place)


def first_room(field, box, time, bits):
    """The first room in which all flows from a box stay for this time; None if none is found.

    BadRow(box), BadNumber("time", time), BadNumber("bits", bits).
    """
    start = _told_box(box)
    _check_time(time)
    check_bits(bits)
    room = start
    for _ in range(61):
        reach = _reach(field, start, time, room)
        if _is_within(reach, room):
            return room
        if _is_far(room):
            return None
        room = _moved_apart(reach, bits)
    return None


def after(field, box, time, room, order, bits):
    """The box in which all flows from a box are at this time; None if they may leave the room until then.

    BadRow(box), BadRow(room), BadNumber("time", time), BadNumber("order", order), BadNumber("bits", bits).
    """
    start, place = _told_box(box), _told_box(room)
    _check_time(time)
    _check_order(order)
    check_bits(bits)
    if not _is_within(_reach(field, start, time, place), place):
        return None
    return _moved_apart(_ends_behind(_sums(field, time, order), start, place), bits)


def tube(field, box, time, count, order, bits):
    """A Tube of so many steps, or a Lost.

    BadRow(box), BadNumber for "time", "count", "order", "bits".
    """
    place = _told_box(box)
    _check_time(time)
    if not is_from(count, 1, 20):
        raise BadNumber("count", count)
    _check_order(order)
    check_bits(bits)
    sums = _sums(field, time, order)
    rooms, boxes = [], []
    for index in range(count):
        room = first_room(field, place, time, bits)
        if room is None:
            return Lost(index + 1, tuple(boxes))
        place = _moved_apart(_ends_behind(sums, place, room), bits)
        rooms.append(room)
        boxes.append(place)
    return Tube(tuple(rooms), tuple(boxes))


def is_tube(field, box, time, order, told):
    """Whether told, any value, is a Tube that is right; BadRow(box), BadNumber for "time", "order"."""
    place = _told_box(box)
    _check_time(time)
    _check_order(order)
    if not isinstance(told, Tube) or not isinstance(told.rooms, tuple) or not isinstance(told.boxes, tuple):
        return False
    if len(told.rooms) != len(told.boxes) or not told.rooms:
        return False
    if not all([_is_strict_box(one) for one in told.rooms + told.boxes]):
        return False
    sums = _sums(field, time, order)
    for one, other in zip(told.rooms, told.boxes):
        room, end = _told_box(one), _told_box(other)
        if not _is_within(_reach(field, place, time, room), room):
            return False
        if not _is_within(_ends_behind(sums, place, room), end):
            return False
        place = end
    return True


def misses(told, goal):
    """Whether goal has no place in common with any of the rooms of a Tube; BadRow(goal)."""
    end = _told_box(goal)
    return not any([_meets(_told_box(room), end) for room in told.rooms])


def ends_in(told, goal):
    """Whether the last box of a Tube lies in goal; BadRow(goal)."""
    end = _told_box(goal)
    return _is_within(_told_box(told.boxes[-1]), end)


def _told_box(value):
    """A box as it is told; BadRow for what is none."""
    if not isinstance(value, (tuple, list)) or len(value) != 2 or not all([is_place(pair) for pair in value]):
        raise BadRow(value)
    wide, high = place_of(value[0]), place_of(value[1])
    if lower(wide[1], wide[0]) or lower(high[1], high[0]):
        raise BadRow(value)
    return wide, high


def _is_strict_box(value):
    """Whether any value is a box, told as values are that are judged."""
    if not isinstance(value, tuple) or len(value) != 2 or not all([is_strict_place(pair) for pair in value]):
        return False
    return not any([lower(pair[1], pair[0]) for pair in value])


def _check_time(time):
    """BadNumber("time", time) for what is no ratio above 0."""
    if not is_ratio(time) or not lower(0, time):
        raise BadNumber("time", time)


def _check_order(order):
    """BadNumber("order", order) for what is no integer from 1 to 6."""
    if not is_from(order, 1, 6):
        raise BadNumber("order", order)


def _reach(field, box, time, room):
    """The box, with all added to it that its places may move in this time, at speeds as in the room."""
    found = []
    for (low, high), plane in zip(box, (field.p, field.q)):
        least, most = corner_range(plane, room)
        down = plus(low, times(time, least)) if lower(least, 0) else low
        up = plus(high, times(time, most)) if lower(0, most) else high
        found.append((down, up))
    return tuple(found)


def _sums(field, time, order):
    """For x and for y: the Plane of the sum of the series below order at this time, and the Plane of what is left."""
    pairs = series(field, order)
    found = []
    for letter in (0, 1):
        total, power = Plane(()), (1, 1)
        for pair in pairs[:order]:
            total = total + power * pair[letter]
            power = times(power, time)
        found.append((total, power * pairs[order][letter]))
    return found


def _ends_behind(sums, box, room):
    """The box behind a step, before its ends are moved."""
    found = []
    for total, rest in sums:
        (low, high), (least, most) = corner_range(total, box), corner_range(rest, room)
        found.append((plus(low, least), plus(high, most)))
    return tuple(found)


def _moved_apart(box, bits):
    """The box with its lower ends moved down, its upper ends moved up to multiples of 2 ** -bits."""
    found = []
    for low, high in box:
        down = floor_of(times(1 << bits, low))
        up = -floor_of(times(-1 << bits, high))
        found.append((times((1, 1 << bits), down), times((1, 1 << bits), up)))
    return tuple(found)


def _is_within(box, other):
    """Whether all places of a box are places of another one."""
    return not any([
        lower(low, least) or lower(most, high) for (low, high), (least, most) in zip(box, other)
    ])


def _meets(box, other):
    """Whether two boxes have a place in common."""
    return not any([
        lower(high, least) or lower(most, low) for (low, high), (least, most) in zip(box, other)
    ])


def _is_far(box):
    """Whether an end is below -1,000 or above 1,000."""
    return any([lower(low, -1000) or lower(1000, high) for low, high in box])
