"""The triangles into which a room falls: strips between upright lines, pieces between two sides."""

from flowpapers.ratios import lower, minus, plus, share, times
from flowpapers.wholes import whole_row


def triangles_of(sides):
    """The triangles of a room with these sides, from left to right, in each strip from below to above."""
    # Upright sides reach through no strip.
    leaning = [_rightwards(side) for side in sides if side[0][0] != side[1][0]]
    lines = _ascending([start[0] for start, _ in sides])
    found = []
    for k, right in enumerate(lines[1:]):
        across = _across(leaning, lines[k], right)
        for at in range(0, len(across), 2):
            found.extend(_piece(across[at], across[at + 1]))
    return tuple(found)


def _rightwards(side):
    """The ends of a side, the one with the lesser x first."""
    start, end = side
    return (end, start) if lower(end[0], start[0]) else (start, end)


def _ascending(numbers):
    """The unlike ones of pairs in lowest terms, in ascending order."""
    tops, _ = whole_row(numbers)
    ordered = [number for _, number in sorted(list(zip(tops, numbers)))]
    return [number for k, number in enumerate(ordered) if k == 0 or ordered[k - 1] != number]


def _across(leaning, left, right):
    """The parts of all sides that reach from the left line to the right one, from below to above."""
    parts = [
        (_at(side, left), _at(side, right))
        for side in leaning if not lower(left, side[0][0]) and not lower(side[1][0], right)
    ]
    # Sides meet only at their ends: in the middle of the strip each one is strictly above the one ahead of it.
    tops, _ = whole_row([plus(start[1], end[1]) for start, end in parts])
    return [part for _, part in sorted(list(zip(tops, parts)))]


def _at(side, x):
    """The point of a side with this x."""
    (a, b), (c, d) = side
    slope = share(minus(d, b), minus(c, a))
    return x, plus(b, times(slope, minus(x, a)))


def _piece(below, above):
    """The triangles of the piece between two parts of sides."""
    (a, c), (b, d) = below, above
    return [triangle for triangle in ((a, c, d), (a, d, b)) if len(set(triangle)) == 3]
