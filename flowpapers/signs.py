"""Zeros of polynomials from 0 to 1, and which signs other polynomials have there: rows of integers here."""

from flowpapers.corner_rows import corner_row_on
from flowpapers.polys import Poly, common
from flowpapers.spots import closer, is_inside, sign_of_integer, spots, value_at
from flowpapers.wholes import top_power, whole_row

# From here on it is asked whether the other polynomial is 0 at the zero, before it is looked at still closer.
CLOSE = 96


class Zero:
    """A zero of a polynomial that has each of its zeros once; its spot gets closer as signs are asked for."""

    def __init__(self, tops, spot):
        self.tops = tops
        self.spot = spot

    def sign_of(self, others):
        """The sign of another polynomial at this zero: 1, 0 or -1."""
        if top_power(others) == -1:
            return 0
        is_asked = False
        while True:
            k, m, is_exact = self.spot
            if is_exact:
                return sign_of_integer(value_at(others, k, m))
            row = corner_row_on(others, (k, 1 << m), (k + 1, 1 << m))
            # The zero lies strictly between both ends: there the other one is not 0 if its corners are from 0 on.
            if min(row) >= 0:
                return 1
            if max(row) <= 0:
                return -1
            if m >= CLOSE and not is_asked:
                is_asked = True
                if self.is_zero_of(others):
                    return 0
            self.spot = closer(self.tops, self.spot, max(2 * m, CLOSE))

    def is_zero_of(self, others):
        """Whether another polynomial with numbers is 0 at this zero, which is not exact."""
        shared, _ = whole_row(common(Poly(self.tops), Poly(others)).numbers)
        k, m, _ = self.spot
        return len(shared) > 1 and is_inside(shared, k, m)


def zeros_of(tops):
    """The Zeros from 0 to 1 in ascending order."""
    return [Zero(tops, spot) for spot in spots(tops)]
