"""Points [5] and [8]: polynomials of one letter."""

import unittest
from fractions import Fraction
from unittest import mock

from flowpapers.errors import BadNumber, BadRow
from flowpapers.polys import Poly, common, divided
from flowpapers.ratios import is_ratio

BIG = 10 ** 5000 + 7

ROWS = (
    (), (0,), (1,), (-3,), ((2, 5),), (0, 1), (1, 1), (-1, 0, 1), ((1, 2), (-2, 3), 5), (0, 0, 0, (7, 3)),
    (1, 2, 3, 4, 5, 6, 7), (6, -5, 1), (BIG, 0, (-1, BIG)), ((1, 6), 0, 0, (1, 10), 0, (1, 15)),
    ([3, 9], 0, [-2, 8], 1), (-1, 3, -3, 1),
)

NO_ROWS = (
    None, True, False, 0, 1, -5, "", "12", b"12", 1.5, Fraction(1, 2), {}, {1: 2}, {1, 2}, range(3), object(), Poly,
    Poly((1, 2)), iter([1, 2]), (None,), [True], (1, False), ("1",), [1, "2"], ((1, 0),), ((1, -1),), (1, (0, 0)),
    ((1, 2, 3),), [[1]], [[]], ((),), (1.0,), ((1.0, 2),), ((True, 1),), ((1, True),), [1, [2, [3]]], (Poly((1,)),),
    [1, 2, 3, None], [(1, 2), (3, 0)],
)

NO_RATIOS = (
    None, True, False, "", "1", "1/2", 1.0, (), (1,), (1, 2, 3), (1, 0), [1, 0], (1, -1), (True, 1), (1, True),
    {}, {1: 2}, object(), Fraction(1, 2), Poly((1,)), ((1, 2), 3),
)


def fraction(ratio):
    return Fraction(ratio) if isinstance(ratio, int) else Fraction(*ratio)


def pairs(row):
    """What numbers of a Poly must be, by a way of its own."""
    numbers = [fraction(number) for number in row]
    while numbers and numbers[-1] == 0:
        numbers.pop()
    return tuple((number.numerator, number.denominator) for number in numbers)


def value(row, point):
    return sum((fraction(number) * fraction(point) ** power for power, number in enumerate(row)), Fraction(0))


def added(one, other):
    many = max(len(one), len(other))
    left, right = [[fraction(number) for number in row] + [0] * (many - len(row)) for row in (one, other)]
    return [(Fraction(a + b).numerator, Fraction(a + b).denominator) for a, b in zip(left, right)]


def turned(row):
    return [(-fraction(number).numerator, fraction(number).denominator) for number in row]


def multiplied(one, other):
    found = [Fraction(0)] * (len(one) + len(other))
    for i, a in enumerate(one):
        for j, b in enumerate(other):
            found[i + j] += fraction(a) * fraction(b)
    return [(number.numerator, number.denominator) for number in found]


def stream(seed):
    """Plain numbers that look mixed, the same in each run."""
    while True:
        seed = (seed * 6364136223846793005 + 1442695040888963407) % 2 ** 64
        yield seed >> 33


def mixed(numbers, degree, size):
    """A row of this degree with mixed ratios, bottoms and tops up to size."""
    row = [(next(numbers) % (2 * size + 1) - size, next(numbers) % size + 1) for _ in range(degree)]
    return tuple(row) + ((next(numbers) % size + 1, next(numbers) % size + 1),)


class PolyCase(unittest.TestCase):

    def assert_poly(self, poly, row):
        self.assertIs(type(poly), Poly)
        self.assert_numbers(poly.numbers)
        self.assertEqual(poly.numbers, pairs(row))

    def assert_numbers(self, numbers):
        self.assertIs(type(numbers), tuple)
        for number in numbers:
            self.assertIs(type(number), tuple)
            self.assertEqual([type(part) for part in number], [int, int])


class TestRows(PolyCase):

    def test_numbers_in_lowest_terms_up_to_the_degree(self):
        for row in ROWS:
            self.assert_poly(Poly(row), row)
            self.assert_poly(Poly(list(row)), row)
        self.assertEqual(Poly(((2, 4), [-3, 6], 0, (0, 5), 8, 0, (0, 3))).numbers,
                         ((1, 2), (-1, 2), (0, 1), (0, 1), (8, 1)))

    def test_zeros(self):
        for row in ((), [], (0,), [0, 0], ((0, 7), [0, 2], 0)):
            self.assertEqual(Poly(row).numbers, ())
            self.assertEqual(Poly(row).degree(), -1)

    def test_two_integers_are_two_numbers(self):
        self.assertEqual(Poly((1, 2)).numbers, ((1, 1), (2, 1)))

    def test_bad_rows(self):
        for row in NO_ROWS:
            with self.assertRaises(BadRow) as seen:
                Poly(row)
            self.assertIs(seen.exception.row, row)

    def test_later_changes_do_not_reach_it(self):
        inner = [1, 2]
        row = [inner, 3, 4]
        poly = Poly(row)
        inner[0] = 9
        row[1] = 8
        row.append(5)
        self.assertEqual(poly.numbers, ((1, 2), (3, 1), (4, 1)))

    def test_the_row_itself_stays(self):
        row = [[2, 4], 0, [0, 3], 0]
        Poly(row)
        self.assertEqual(row, [[2, 4], 0, [0, 3], 0])

    def test_degree(self):
        for row in ROWS:
            self.assertEqual(Poly(row).degree(), len(pairs(row)) - 1)
        self.assertEqual(Poly((0, 0, 5, 0)).degree(), 2)
        self.assertEqual(Poly((5,)).degree(), 0)


class TestEqual(PolyCase):

    def test_equal_numbers(self):
        for one in ROWS:
            for other in ROWS:
                self.assertIs(Poly(one) == Poly(other), pairs(one) == pairs(other))
                self.assertIs(Poly(one) != Poly(other), pairs(one) != pairs(other))
        self.assertTrue(Poly(((2, 4), 0)) == Poly([[1, 2]]))

    def test_other_classes(self):
        for other in (0, 1, (1, 2), ((1, 1), (2, 1)), [1, 2], None, "t", object(), Poly, mock.ANY):
            self.assertIs(Poly((1, 2)) == other, False)
            self.assertIs(Poly((1, 2)) != other, True)
        for one, other in ((Poly(()), 0), (Poly((3,)), 3), (Poly(((1, 2),)), (1, 2)), (Poly(()), ())):
            self.assertIs(one == other, False)
            self.assertIs(other == one, False)


class TestSigns(PolyCase):

    def test_of_two_polys(self):
        for one in ROWS:
            for other in ROWS:
                left, right = Poly(one), Poly(other)
                self.assert_poly(left + right, added(one, other))
                self.assert_poly(left - right, added(one, turned(other)))
                self.assert_poly(left * right, multiplied(one, other))
                self.assertEqual((left.numbers, right.numbers), (pairs(one), pairs(other)))

    def test_a_ratio_on_both_sides(self):
        for row in ROWS:
            for number in (0, 1, -4, (0, 3), (1, 2), (-6, 4), BIG, (3, BIG)):
                poly = Poly(row)
                self.assert_poly(poly + number, added(row, [number]))
                self.assert_poly(number + poly, added(row, [number]))
                self.assert_poly(poly - number, added(row, turned([number])))
                self.assert_poly(number - poly, added([number], turned(row)))
                self.assert_poly(poly * number, multiplied(row, [number]))
                self.assert_poly(number * poly, multiplied(row, [number]))

    def test_turned(self):
        for row in ROWS:
            self.assert_poly(-Poly(row), turned(row))

    def test_sums_may_lose_their_degree(self):
        self.assertEqual((Poly((1, 2, 3)) - Poly((0, 2, 3))).numbers, ((1, 1),))
        self.assertEqual((Poly((1, 2)) + Poly((-1, -2))).numbers, ())
        self.assertEqual((Poly((5,)) - 5).numbers, ())
        self.assertEqual((0 * Poly((5, 6))).numbers, ())

    def test_in_place_signs_make_new_ones(self):
        poly = same = Poly((1, 2))
        poly += 1
        poly *= 2
        poly -= Poly((0, 1))
        self.assert_poly(poly, (4, 3))
        self.assert_poly(same, (1, 2))

    def test_what_is_no_ratio_beside_a_sign(self):
        poly = Poly((1, 2))
        for other in (True, None, "1", 1.5, (1, 0), (1,), (1, 2, 3), [1, 2], (True, 1), object(), Fraction(1, 2)):
            for sign in (lambda a, b: a + b, lambda a, b: a - b, lambda a, b: a * b):
                with self.assertRaises(TypeError):
                    sign(poly, other)
                with self.assertRaises(TypeError):
                    sign(other, poly)


class TestValues(PolyCase):

    def test_at(self):
        for row in ROWS:
            for point in (0, 1, -1, 3, (1, 2), [1, 2], (-2, 6), (0, 4), [-14, 4], BIG, (1, BIG)):
                found = Poly(row).at(point)
                number = value(row, point)
                self.assert_numbers((found,))
                self.assertEqual(found, (number.numerator, number.denominator))

    def test_bad_points(self):
        for row in ((), (1,), (1, 2, 3)):
            for point in NO_RATIOS:
                with self.assertRaises(BadNumber) as seen:
                    Poly(row).at(point)
                self.assertEqual(seen.exception.what, "point")
                self.assertIs(seen.exception.number, point)

    def test_slope(self):
        for row in ROWS:
            slope = [fraction(number) * power for power, number in enumerate(row)][1:]
            self.assert_poly(Poly(row).slope(), [(number.numerator, number.denominator) for number in slope])
        self.assertEqual(Poly((9, 1, (1, 2), (1, 3))).slope().numbers, ((1, 1), (1, 1), (1, 1)))
        self.assertEqual(Poly((5,)).slope().numbers, ())
        self.assertEqual(Poly(()).slope().numbers, ())


class TestDivided(PolyCase):

    def check(self, one, other):
        quotient, rest = divided(one, other)
        self.assert_poly(quotient, quotient.numbers)
        self.assert_poly(rest, rest.numbers)
        self.assertLess(rest.degree(), other.degree())
        self.assert_poly(one, added(multiplied(quotient.numbers, other.numbers), rest.numbers))
        return quotient, rest

    def test_product_and_rest_make_the_polynomial(self):
        for one in ROWS:
            for other in ROWS:
                if pairs(other):
                    self.check(Poly(one), Poly(other))

    def test_known_answers(self):
        self.assertEqual(divided(Poly((-1, 0, 1)), Poly((-1, 1))), (Poly((1, 1)), Poly(())))
        self.assertEqual(divided(Poly((1, 0, 0, 1)), Poly((0, -2))), (Poly((0, 0, (-1, 2))), Poly((1,))))
        self.assertEqual(divided(Poly((1, 2)), Poly((0, 0, 1))), (Poly(()), Poly((1, 2))))
        self.assertIs(type(divided(Poly((1,)), Poly((1,)))), tuple)

    def test_a_divisor_of_degree_0(self):
        for number in (1, -2, (3, 7), (-1, BIG)):
            for row in ROWS:
                quotient, rest = self.check(Poly(row), Poly((number,)))
                self.assertEqual(rest.numbers, ())

    def test_a_divisor_of_degree_less_than_0(self):
        for one in (Poly(()), Poly((1,)), Poly((1, 2, 3))):
            for nothing in (Poly(()), Poly((0, (0, 2)))):
                with self.assertRaises(BadNumber) as seen:
                    divided(one, nothing)
                self.assertEqual(seen.exception.what, "divisor")
                self.assertIs(type(seen.exception.number), int)
                self.assertEqual(seen.exception.number, 0)

    def test_mixed_rows(self):
        numbers = stream(5)
        for degree in range(13):
            for other in range(13):
                self.check(Poly(mixed(numbers, degree, 50)), Poly(mixed(numbers, other, 50)))


class TestCommon(PolyCase):

    def check(self, one, other):
        """The answer, compared with that of division by turns."""
        found = common(one, other)
        self.assert_poly(found, found.numbers)
        left, right = one, other
        while right.degree() >= 0:
            left, right = right, divided(left, right)[1]
        if left.degree() >= 0:
            left = divided(left, Poly((left.numbers[-1],)))[0]
        self.assertEqual(found.numbers, left.numbers)
        return found

    def test_both_of_degree_less_than_0(self):
        self.assertEqual(common(Poly(()), Poly((0,))).numbers, ())

    def test_one_of_degree_less_than_0(self):
        for row in ROWS:
            if pairs(row):
                lead = pairs(row)[-1]
                monic = multiplied(row, [(Fraction(1) / fraction(lead)).as_integer_ratio()])
                self.assert_poly(common(Poly(row), Poly(())), monic)
                self.assert_poly(common(Poly(()), Poly(row)), monic)

    def test_without_a_common_divisor(self):
        for one, other in (((5,), (7,)), ((1, 1), (-1, 1)), (((1, 3),), (2, 5, 7)), ((1, 0, 1), (2, 0, 1))):
            self.assertEqual(common(Poly(one), Poly(other)).numbers, ((1, 1),))
            self.assertEqual(common(Poly(other), Poly(one)).numbers, ((1, 1),))

    def test_with_a_common_divisor(self):
        one = Poly((-1, 1)) * Poly((-1, 1)) * Poly((2, 3)) * 6
        other = Poly((-1, 1)) * Poly((2, 3)) * Poly((5, 0, 1)) * (-1, 4)
        self.assertEqual(common(one, other).numbers, pairs(((-2, 3), (-1, 3), 1)))
        self.assertEqual(common(one, one.slope()).numbers, ((-1, 1), (1, 1)))
        self.assertEqual(common(-one, one), common(one, one))

    def test_all_pairs_of_rows(self):
        # Division by turns is too slow for the row with the largest numbers; TestSizes has such rows.
        rows = [row for row in ROWS if BIG not in row]
        for one in rows:
            for other in rows:
                for factor in ((1,), (0, 2), (-1, 3, -3, 1), ((1, 2), (-2, 3), 5)):
                    self.check(Poly(one) * Poly(factor), Poly(other) * Poly(factor))

    def test_values_that_share_more_than_the_rows(self):
        # Rows whose values at whole numbers have large common divisors, though they have none.
        one, other = Poly((1,)), Poly((1,))
        for k in range(12):
            one = one * Poly((k, 1))
            other = other * Poly((k + 12, 1))
        self.assertEqual(self.check(one, other).numbers, ((1, 1),))
        many = 1
        for k in range(2, 40):
            many = many * k
        self.assertEqual(self.check(Poly((many, 1)), Poly((2 * many, 1))).numbers, ((1, 1),))
        self.assertEqual(self.check(Poly((many, 1)), Poly((many, 1 + many))).numbers, ((1, 1),))
        for k in range(200):
            self.check(Poly((k - 100, 1)) * Poly((1, 2)), Poly((k * k, 0, 1)) * Poly((1, 2)))

    def test_all_pairs_of_small_lines(self):
        for one in range(-4, 5):
            for other in range(-90, 91):
                expected = ((1, 1),) if one != other else ((one, 1), (1, 1))
                self.assertEqual(common(Poly((one, 1)), Poly((other, 1))).numbers, expected)
                self.assertEqual(common(Poly((other, 1)), Poly((one, 1))).numbers, expected)

    def test_mixed_rows(self):
        numbers = stream(11)
        for degree in range(7):
            for other in range(7):
                shared = Poly(mixed(numbers, next(numbers) % 4, 9))
                found = self.check(
                    Poly(mixed(numbers, degree, 9)) * shared, Poly(mixed(numbers, other, 9)) * shared)
                self.assertEqual(divided(found, shared)[1].numbers, ())


class TestSizes(PolyCase):

    def test_large_degrees_and_numbers(self):
        numbers = stream(3)
        size = 10 ** 9
        one, other, shared = [Poly(mixed(numbers, 12, size)) for _ in range(3)]
        left, right = one * shared * Poly(mixed(numbers, 12, size)), other * shared
        self.assertEqual((left.degree(), right.degree()), (36, 24))
        monic = divided(shared, Poly((shared.numbers[-1],)))[0]
        self.assertEqual(common(left, right).numbers, monic.numbers)
        self.assertEqual(divided(left, shared)[1].numbers, ())
        self.assertEqual(left.at((7, 5)), ((left - 0).at((14, 10))))
        self.assertEqual((left - left).degree(), -1)

    def test_numbers_of_any_size(self):
        poly = Poly((BIG, (1, BIG)))
        self.assertEqual(poly.at(BIG * BIG), (2 * BIG, 1))
        self.assertEqual((poly * poly).numbers, ((BIG * BIG, 1), (2, 1), (1, BIG * BIG)))
        self.assertEqual(divided(poly * poly, poly), (poly, Poly(())))
        self.assertEqual(common(poly * poly, poly).numbers, ((BIG * BIG, 1), (1, 1)))
        self.assertTrue(all(is_ratio(number) for number in poly.slope().numbers))


if __name__ == "__main__":
    unittest.main()
