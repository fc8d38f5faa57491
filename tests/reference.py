"""What the tests compare with: the same things once more, by plain ways of their own, with Fractions."""

from fractions import Fraction
from math import comb, factorial

# Values that are no ratios, no rows of ratios, no places, no matrices, no triangles.
ODD = (
    None, True, False, "", "12", "1/2", b"12", 1.5, Fraction(1, 2), {}, {1: 2}, object(), range(2), (1, 0), [1, 0], (1, -1),
    (True, 1), (1, True), (1.0, 2), (1, 2, 3), (1,), (), ((1, 2),), "ab",
)


def fraction(ratio):
    return Fraction(ratio) if isinstance(ratio, (int, Fraction)) else Fraction(*ratio)


def pair(number):
    number = Fraction(number)
    return number.numerator, number.denominator


def stream(seed):
    """Plain numbers that look mixed, the same in each run."""
    while True:
        seed = (seed * 6364136223846793005 + 1442695040888963407) % 2 ** 64
        yield seed >> 33


def mixed_ratio(numbers, size):
    return next(numbers) % (2 * size + 1) - size, next(numbers) % size + 1


def mixed_rows(numbers, degree, size):
    """Rows of a Plane of at most this total degree with mixed ratios."""
    return [[mixed_ratio(numbers, size) for _ in range(degree + 1 - i)] for i in range(degree + 1)]


# Polynomials of two letters: dicts from (i, j) to Fractions other than 0.

def table(rows):
    found = {(i, j): fraction(number) for i, row in enumerate(rows) for j, number in enumerate(row)}
    return {power: number for power, number in found.items() if number}


def added(one, other, factor=1):
    found = {power: one.get(power, 0) + factor * other.get(power, 0) for power in {**one, **other}}
    return {power: number for power, number in found.items() if number}


def multiplied(one, other):
    found = {}
    for (i, j), number in one.items():
        for (k, m), further in other.items():
            found[i + k, j + m] = found.get((i + k, j + m), 0) + number * further
    return {power: number for power, number in found.items() if number}


def scaled(one, factor):
    return {power: number * factor for power, number in one.items() if factor}


def slope_x(one):
    return {(i - 1, j): i * number for (i, j), number in one.items() if i}


def slope_y(one):
    return {(i, j - 1): j * number for (i, j), number in one.items() if j}


def along(p, q, one):
    return added(multiplied(p, slope_x(one)), multiplied(q, slope_y(one)))


def value(one, x, y):
    return sum((number * x ** i * y ** j for (i, j), number in one.items()), Fraction(0))


def raised(one, many):
    found = {(0, 0): Fraction(1)}
    for _ in range(many):
        found = multiplied(found, one)
    return found


def put_in(one, over, up):
    """The polynomial with two others in the place of its letters."""
    found = {}
    for (i, j), number in one.items():
        found = added(found, scaled(multiplied(raised(over, i), raised(up, j)), number))
    return found


def rows_of(one):
    """The attribute rows that a Plane with these numbers must have."""
    high = max((i for i, _ in one), default=-1)
    rows = []
    for i in range(high + 1):
        wide = max((j for k, j in one if k == i), default=-1)
        rows.append(tuple(pair(one.get((i, j), 0)) for j in range(wide + 1)))
    return tuple(rows)


# Polynomials of one letter: rows of ratios.

def poly_value(numbers, t):
    return sum((fraction(number) * t ** k for k, number in enumerate(numbers)), Fraction(0))


def stretch_corners(numbers, low, high):
    """The corners by means: with t ** i goes the mean of the products of i of n - k lows and k highs."""
    degree = max(len(numbers) - 1, 0)
    found = []
    for k in range(degree + 1):
        sums = [Fraction(1)] + [Fraction(0)] * degree
        for end in [low] * (degree - k) + [high] * k:
            for power in range(degree, 0, -1):
                sums[power] += end * sums[power - 1]
        found.append(sum(
            (fraction(number) * sums[power] / comb(degree, power) for power, number in enumerate(numbers)), Fraction(0)))
    return found


# Triangles: three pairs of Fractions.

def triples(degree):
    return [(i, j, degree - i - j) for i in range(degree, -1, -1) for j in range(degree - i, -1, -1)]


def triangle_corners(one, triangle, degree):
    """The corners by writing the polynomial with shares u, v, w, all its terms brought to one degree."""
    def product(first, second):
        found = {}
        for (a, b, c), number in first.items():
            for (d, e, f), further in second.items():
                power = a + d, b + e, c + f
                found[power] = found.get(power, 0) + number * further
        return found

    letters = ((1, 0, 0), (0, 1, 0), (0, 0, 1))
    x, y = ({letter: fraction(place[k]) for letter, place in zip(letters, triangle)} for k in (0, 1))
    full = dict.fromkeys(letters, Fraction(1))
    total = {}
    for (i, j), number in one.items():
        part = {(0, 0, 0): number}
        for factor in [x] * i + [y] * j + [full] * (degree - i - j):
            part = product(part, factor)
        for power, further in part.items():
            total[power] = total.get(power, 0) + further
    found = []
    for i, j, k in triples(degree):
        ways = factorial(degree) // (factorial(i) * factorial(j) * factorial(k))
        found.append(total.get((i, j, k), Fraction(0)) / ways)
    return found


def halves(triangle, side):
    first, second = list(triangle), list(triangle)
    behind = (side + 1) % 3
    middle = tuple((triangle[side][k] + triangle[behind][k]) / 2 for k in (0, 1))
    first[behind] = second[side] = middle
    return tuple(first), tuple(second)


def leaves(tree, triangle):
    """The triangles to which a tree leads."""
    if not tree:
        return [triangle]
    one, other = halves(triangle, tree[0])
    return leaves(tree[1], one) + leaves(tree[2], other)


def places(row):
    """A row of places as Fractions."""
    return tuple(tuple(fraction(number) for number in place) for place in row)


def area(row):
    """Twice the area of a closed row of places, above 0 if it goes against the clock."""
    return sum(a[0] * b[1] - a[1] * b[0] for a, b in zip(row, row[1:] + row[:1]))
