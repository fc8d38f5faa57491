"""Signs of polynomials of one letter at all points from 0 to 1."""

from flowpapers.corner_rows import corner_row, corner_row_on, halves
from flowpapers.errors import BadNumber
from flowpapers.kinds import check_bits, held, is_strict_ratio, pair_of
from flowpapers.polys import Poly, common, divided
from flowpapers.ratios import lower, plus, times
from flowpapers.spots import closer, is_inside, ratio_in, spots, value_at
from flowpapers.wholes import whole_row


class Split:
    """A polynomial is rest * root * root, and from one cut to the next all corners of rest are from 0 on."""

    def __init__(self, root, rest, cuts):
        self.root = held(root)
        self.rest = held(rest)
        self.cuts = held(cuts)


class Below:
    """A polynomial has this number below 0 at a ratio from 0 to 1."""

    def __init__(self, at, number):
        self.at = held(at)
        self.number = held(number)


def never_below(poly):
    """A Split if poly is from 0 on at all t from 0 to 1, otherwise a Below."""
    root = Poly((1,))
    for factor, often in _factors(poly):
        for _ in range(often // 2):
            root = root * factor
    rest = divided(poly, root * root)[0]
    tops, _ = whole_row(rest.numbers)
    points, is_below = _points(tops)
    if is_below:
        return _below_near(poly, points[0], points[1])
    return Split(root, rest, tuple(_fewest(tops, points)))


def is_split(poly, told):
    """Whether told, any value, is a Split of poly."""
    if not isinstance(told, Split) or not isinstance(told.root, Poly) or not isinstance(told.rest, Poly):
        return False
    if not _are_cuts(told.cuts) or not _is_product(poly, told.root, told.rest):
        return False
    tops, _ = whole_row(told.rest.numbers)
    ends = [(0, 1)] + [pair_of(cut) for cut in told.cuts] + [(1, 1)]
    for k, end in enumerate(ends[1:]):
        if min(corner_row_on(tops, ends[k], end)) < 0:
            return False
    return True


def count_zeros(poly):
    """How many unlike zeros from 0 to 1; BadNumber("degree", -1) if poly has no numbers."""
    return len(_placed(poly))


def zeros(poly, bits):
    """A row (one, other, times) for each zero from 0 to 1, in ascending order.

    BadNumber("degree", -1), BadNumber("bits", bits).
    """
    found = _placed(poly)
    check_bits(bits)
    rows = []
    for tops, often, spot in found:
        one, other = ends_of(tops, spot, bits)
        rows.append((one, other, often))
    return tuple(rows)


def between(poly):
    """The signs from 0 to 1 on the open stretches between the zeros; BadNumber("degree", -1)."""
    found = _placed(poly)
    sign = 1 if [top for top, _ in poly.numbers if top != 0][0] > 0 else -1
    signs = [sign]
    for _, often, (k, m, is_zero) in found:
        if not (is_zero and k in (0, 1 << m)):
            sign = -sign if often % 2 == 1 else sign
            signs.append(sign)
    return tuple(signs)


def _factors(poly):
    """Pairs (factor, often): poly is the product of all factors, each as often as told, and of a number.

    Each factor has each of its zeros once, and the number 1 at its greatest power; no two have a zero
    in common.
    """
    if poly.degree() < 1:
        return []
    found, often = [], 1
    shared = common(poly, poly.slope())
    simple = divided(poly, shared * poly.numbers[-1])[0]
    while simple.degree() > 0:
        further = common(simple, shared)
        factor = divided(simple, further)[0]
        if factor.degree() > 0:
            found.append((factor, often))
        simple, shared = further, divided(shared, further)[0]
        often = often + 1
    return found


def _points(tops):
    """Points from 0 to 1 such that all corners from each one to the next one are from 0 on, and False.

    Otherwise two points, the polynomial being below 0 at the first one and near it towards the other,
    and True. The polynomial has no zero twice.
    """
    points = [(0, 1)]
    todo = [(corner_row(tops), 0, 0)]
    while todo:
        row, k, m = todo.pop()
        ends = [(k, 1 << m), (k + 1, 1 << m)]
        if min(row) >= 0:
            points.append(ends[1])
        elif row[0] < 0:
            return ends, True
        elif row[-1] < 0:
            return ends[::-1], True
        else:
            lows, highs = halves(row, len(row) - 1)
            todo.append((highs, 2 * k + 1, m + 1))
            todo.append((lows, 2 * k, m + 1))
    return points, False


def _fewest(tops, points):
    """The cuts that are left when each stretch reaches as far as its corners are from 0 on."""
    found, at = [], 0
    while at < len(points) - 1:
        at = _farthest(tops, points, at)
        found.append(pair_of(points[at]))
    return found[:-1]


def _farthest(tops, points, at):
    """The greatest index of a point to which all corners from the point with index at are from 0 on."""
    # If they are so on a stretch, they are so on all stretches within it: therefore halving finds it.
    low, step = at + 1, 1
    while low + step < len(points) and min(corner_row_on(tops, points[at], points[low + step])) >= 0:
        low, step = low + step, 2 * step
    high = min(low + step, len(points))
    while high - low > 1:
        middle = (low + high) // 2
        if min(corner_row_on(tops, points[at], points[middle])) >= 0:
            low = middle
        else:
            high = middle
    return low


def _below_near(poly, place, other):
    """A Below at place or near it, towards other."""
    at = place
    while True:
        number = poly.at(at)
        if number[0] < 0:
            return Below(pair_of(at), number)
        # The root of the split is 0 here: it has few zeros, so halfway points come to its end.
        other = times((1, 2), plus(place, other))
        at = other


def _are_cuts(value):
    """Whether any value is a tuple of ascending ratios strictly between 0 and 1."""
    if not isinstance(value, tuple) or not all([is_strict_ratio(cut) for cut in value]):
        return False
    ends = [0, *value, 1]
    return all([lower(ends[k], end) for k, end in enumerate(ends[1:])])


def _is_product(poly, root, rest):
    """Whether poly is rest * root * root."""
    if root.degree() == -1 or rest.degree() == -1:
        return poly.degree() == -1
    return poly.degree() == rest.degree() + 2 * root.degree() and poly == rest * root * root


def _placed(poly):
    """Rows (tops, often, spot) for all zeros from 0 to 1 in order; tops tells the factor with this zero."""
    if poly.degree() == -1:
        raise BadNumber("degree", -1)
    simple, factors = Poly((1,)), []
    for factor, often in _factors(poly):
        simple = simple * factor
        factors.append((whole_row(factor.numbers)[0], often))
    found = []
    for spot in spots(whole_row(simple.numbers)[0]):
        tops, often = _factor_at(factors, spot)
        found.append((tops, often, spot))
    return found


def _factor_at(factors, spot):
    """The one of the factors that has the zero of a spot."""
    k, m, is_zero = spot
    for tops, often in factors:
        has_it = value_at(tops, k, m) == 0 if is_zero else is_inside(tops, k, m)
        if has_it:
            return tops, often
    return factors[-1]


def ends_of(tops, spot, bits):
    """The zero twice, if it is a ratio, otherwise the two multiples of 2 ** -bits around it."""
    k, m, is_zero = closer(tops, spot, max(bits, abs(tops[-1]).bit_length()))
    found = (k, 1 << m) if is_zero else ratio_in(tops, k, m)
    if found is not None:
        return pair_of(found), pair_of(found)
    k = k >> (m - bits)
    return pair_of((k, 1 << bits)), pair_of((k + 1, 1 << bits))
