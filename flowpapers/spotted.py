"""Places at which two Planes are both 0, told by zeros t of polynomials: where they lie, exactly."""

from flowpapers.kinds import pair_of
from flowpapers.signs import zeros_of
from flowpapers.stretches import ends_of
from flowpapers.wholes import row_powers, row_product, row_sum, whole_row, whole_rows


class Spotted:
    """The place (over / below, up / below), the values of three rows of integers at a Zero; below is above 0."""

    def __init__(self, zero, over, up, below):
        self.zero = zero
        self.over = over
        self.up = up
        self.below = below

    def side_of(self, a, b, c):
        """The sign of a * x + b * y + c, with integers a, b and c."""
        return self.zero.sign_of(row_sum([(a, self.over), (b, self.up), (c, self.below)]))

    def sign_at(self, plane):
        """The sign of a Plane there."""
        rows, _ = whole_rows(plane.rows)
        many = max(plane.degree(), 0)
        overs, ups, belows = [row_powers(row, many) for row in (self.over, self.up, self.below)]
        parts = [
            (number, row_product(row_product(overs[i], ups[j]), belows[many - i - j]))
            for i, row in enumerate(rows) for j, number in enumerate(row) if number != 0
        ]
        return self.zero.sign_of(row_sum(parts))

    def position(self, sides):
        """1 if it lies inside a room with these sides, 0 if on one of them, -1 if beyond."""
        found, levels = -1, {}
        for (a, b), (c, d) in sides:
            for value in (b, d):
                if value not in levels:
                    levels[value] = self.side_of(0, value[1], -value[0])
            low, high = levels[b], levels[d]
            if low * high <= 0:
                turn = self.turn_from((a, b), (c, d))
                if turn == 0 and self.side_of(a[1], 0, -a[0]) * self.side_of(c[1], 0, -c[0]) <= 0:
                    return 0
                # The side crosses the line that goes from the place to the left and to the right.
                if (low < 0) != (high < 0) and (turn > 0) == (high < 0):
                    found = -found
        return found

    def turn_from(self, start, end):
        """1 if it lies to the left of the way from start to end, -1 if to the right, 0 if on its line."""
        (a, c), wide = whole_row((start[0], end[0]))
        (b, d), high = whole_row((start[1], end[1]))
        return self.side_of((b - d) * wide, (c - a) * high, (d - b) * a - (c - a) * b)


def spotted(c, wide, branches):
    """All places with t from 0 to 1 of branches, as branches_of tells them."""
    found = []
    for tops, up, below in branches:
        # x is -wide + 2 * wide * t - c * y.
        over = row_sum([(-wide, below), (2 * wide, [0] + below), (-c, up)])
        for zero in zeros_of(tops):
            if zero.sign_of(below) > 0:
                found.append(Spotted(zero, over, up, below))
            else:
                found.append(Spotted(zero, _turned_row(over), _turned_row(up), _turned_row(below)))
    return found


def number_of(place, zeros, half, letter):
    """The index of the one of these Zeros t for which -half + 2 * half * t is the x (letter 0) or y of a place."""
    for index, zero in enumerate(zeros):
        k, m, is_exact = zero.spot
        # Up to here this Zero may lie; all those ahead of it are not the one that is sought.
        top, bottom = pair_of((half * (2 * (k if is_exact else k + 1) - (1 << m)), 1 << m))
        sign = place.side_of(0, bottom, -top) if letter else place.side_of(bottom, 0, -top)
        if sign < 0 or (is_exact and sign == 0):
            return index
    return None


def told_ends(zero, half, bits):
    """The number -half + 2 * half * t twice, if it is a ratio, otherwise both multiples of 2 ** -bits around it.

    half is a power of 2.
    """
    ends = ends_of(zero.tops, zero.spot, bits + half.bit_length())
    return tuple([pair_of((2 * half * top - half * bottom, bottom)) for top, bottom in ends])


def _turned_row(row):
    return [-number for number in row]
