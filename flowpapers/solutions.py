"""The places at which two Planes without a common divisor are both 0.

With x = -wide + 2 * wide * t - c * y both are polynomials in t and y. For a fitting integer c unlike places have
unlike t, and at each t of one the y is a quotient. A *branch* is a triple (tops, up, below) of rows of integers by
ascending powers of t: the zeros of tops, each of which it has once, are the t of some places, where y is up / below.
"""

from math import comb

from flowpapers.eliminated import remainder, stack_of
from flowpapers.planes import Plane
from flowpapers.polys import Poly, common, divided
from flowpapers.ratios import share
from flowpapers.wholes import whole_row


def divisor_of(p, q):
    """The common divisor of two Planes of the greatest degree, with lead 1; None if its degree is 0.

    The Plane that is 0 if both are.
    """
    if p.degree() == -1 or q.degree() == -1:
        found = q if p.degree() == -1 else p
        return None if found.degree() == 0 else _with_lead_1(found)
    if p.degree() == 0 or q.degree() == 0:
        return None
    c, stack, other = _sheared(p, q, 1, 0)
    if remainder(stack, other, 0)[0]:
        return None
    k = 1
    while not remainder(stack, other, k)[k]:
        k = k + 1
    # The divisor has a number alone at its greatest power of y, as both Planes have.
    parts = remainder(stack, other, k)
    columns = [divided(Poly(part), Poly(parts[k]))[0].numbers for part in parts]
    many = max([len(column) for column in columns])
    rows = [[column[i] if i < len(column) else 0 for column in columns] for i in range(many)]
    double = 2 * (1 + abs(c))
    return _with_lead_1(Plane(rows).moved(((1, double), (c, double), 0, 1), ((1, 2), 0)))


def branches_of(p, q, half):
    """(c, wide, branches) for all places with x and y from -half to half, half an integer.

    Both Planes have degrees from 1 on, and no common divisor.
    """
    start = 0
    while True:
        c, stack, other = _sheared(p, q, half, start)
        found = _branches(stack, other)
        if found is not None:
            return c, (1 + abs(c)) * half, found
        start = _next_shear(c)


def values_of(p, q, half):
    """The row of integers whose zeros, each once, are all t with a place at x = -half + 2 * half * t."""
    stacks = [stack_of(plane.moved((2 * half, 0, 0, 1), (-half, 0))) for plane in (p, q)]
    return simple_row(remainder(stacks[0], stacks[1], 0)[0])


def simple_row(tops):
    """The row of integers with the same zeros, each once."""
    poly = Poly(tops)
    return whole_row(divided(poly, common(poly, poly.slope()))[0].numbers)[0]


def _sheared(p, q, half, start):
    """The first c from start on, in the order 0, 1, -1, 2, .., for which both stacks end with numbers; and these."""
    c = start
    while True:
        wide = (1 + abs(c)) * half
        stacks = [stack_of(plane.moved((2 * wide, -c, 0, 1), (-wide, 0))) for plane in (p, q)]
        if len(stacks[0]) == p.degree() + 1 and len(stacks[1]) == q.degree() + 1:
            return c, stacks[0], stacks[1]
        c = _next_shear(c)


def _next_shear(c):
    return -c if c > 0 else 1 - c


def _branches(stack, other):
    """The branches, None if some unlike places have the same t."""
    poly = Poly(simple_row(remainder(stack, other, 0)[0]))
    found, k = [], 1
    while poly.degree() > 0:
        parts = remainder(stack, other, k)
        vanishing = common(poly, Poly(parts[k]))
        factor = divided(poly, vanishing)[0]
        if factor.degree() > 0:
            if not _is_power(factor, [Poly(part) for part in parts]):
                return None
            below = [k * number for number in parts[k]]
            found.append((whole_row(factor.numbers)[0], [-number for number in parts[k - 1]], below))
        poly = vanishing
        k = k + 1
    return found


def _is_power(factor, parts):
    """Whether, at the zeros of a factor, the polynomial in y with these numbers has one zero alone."""
    k = len(parts) - 1
    lead, ahead = parts[k], parts[k - 1]
    # It is lead * (y + ahead / (k * lead)) ** k then.
    scale, power = k * lead, ahead
    for j in reversed(range(k - 1)):
        power = divided(power * ahead, factor)[1]
        scale = divided(scale * lead * k, factor)[1]
        if divided(parts[j] * scale - comb(k, j) * (lead * power), factor)[1].degree() != -1:
            return False
    return True


def _with_lead_1(plane):
    """The Plane divided by its number at the power with the greatest i + j and, among these, the greatest i."""
    degree = plane.degree()
    leads = [row[degree - i] for i, row in enumerate(plane.rows) if len(row) == degree + 1 - i]
    return share(1, leads[-1]) * plane if leads else plane
