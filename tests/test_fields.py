"""Points [15], [16] and [21]: fields and series."""

import unittest
from fractions import Fraction
from math import comb, factorial
from unittest import mock

import reference as ref
from flowpapers.errors import BadNumber, BadRow
from flowpapers.fields import (
    Field, bend_at, changed, field_at, series, slope_along, slopes_along, stream_out, turned_back,
)
from flowpapers.planes import Plane, plane_of

NO_PLACES = (
    None, True, 0, "ab", (), (1,), (1, 2, 3), (1, None), (True, 1), ((1, 0), 1), (1, (1, -1)), {1: 2, 3: 4}, 1.5, object(), (1.0, 2),
    [1, "2"], ((1, 2, 3), 4),
)

NO_INTEGERS = (True, False, None, "3", 2.0, (1, 1), [2], (), Fraction(2), object())


def field_of(p, q):
    return Field(plane_of(p), plane_of(q))


def mixed_field(numbers, degree, size=7):
    return Field(Plane(ref.mixed_rows(numbers, degree, size)), Plane(ref.mixed_rows(numbers, degree, size)))


class FieldCase(unittest.TestCase):

    def assert_plane(self, plane, numbers):
        self.assertIs(type(plane), Plane)
        self.assertEqual(plane.rows, ref.rows_of(numbers))

    def assert_bad_row(self, value, call):
        with self.assertRaises(BadRow) as seen:
            call()
        self.assertIs(seen.exception.row, value)

    def assert_bad_number(self, what, number, call):
        with self.assertRaises(BadNumber) as seen:
            call()
        self.assertEqual(seen.exception.what, what)
        self.assertIs(type(seen.exception.number), type(number))
        self.assertEqual(seen.exception.number, number)

    def tables(self, field):
        return ref.table(field.p.rows), ref.table(field.q.rows)


class TestField(FieldCase):

    def test_attributes(self):
        p, q = plane_of("x"), plane_of("y^2")
        field = Field(p, q)
        self.assertIs(field.p, p)
        self.assertIs(field.q, q)

    def test_it_keeps_what_it_is_given(self):
        row = [1, [2]]
        field = Field(row, "q")
        row.append(3)
        self.assertEqual((field.p, field.q), ((1, [2]), "q"))

    def test_equal(self):
        one = field_of("x + y", "1/2*x")
        self.assertIs(one == field_of("y + x", "2/4*x"), True)
        self.assertIs(one != field_of("y + x", "2/4*x"), False)
        for other in (field_of("x + y", "x"), field_of("x - y", "1/2*x"), field_of("1/2*x", "x + y")):
            self.assertIs(one == other, False)
            self.assertIs(one != other, True)

    def test_other_classes(self):
        one = field_of("x", "y")
        for other in (None, 0, (one.p, one.q), one.p, "x", object(), mock.ANY):
            self.assertIs(one == other, False)

    def test_field_at_and_bend_at(self):
        numbers = ref.stream(51)
        for k in range(60):
            field = mixed_field(numbers, k % 7)
            place = [ref.mixed_ratio(numbers, 9), next(numbers) % 9]
            x, y = (ref.fraction(number) for number in place)
            p, q = self.tables(field)
            self.assertEqual(field_at(field, place), tuple(ref.pair(ref.value(one, x, y)) for one in (p, q)))
            self.assertEqual(bend_at(field, place), tuple(
                tuple(ref.pair(ref.value(slope(one), x, y)) for slope in (ref.slope_x, ref.slope_y)) for one in (p, q)))
        self.assertEqual(field_at(field_of("1/2*x", "y^2"), (1, (2, 6))), ((1, 2), (1, 9)))
        self.assertEqual(bend_at(field_of("2*x + 3*y", "5*x + 7*y"), (0, 0)), (((2, 1), (3, 1)), ((5, 1), (7, 1))))

    def test_bad_places(self):
        for odd in NO_PLACES:
            for field in (field_of("x", "y"), field_of("0", "0")):
                self.assert_bad_row(odd, lambda: field_at(field, odd))
                self.assert_bad_row(odd, lambda: bend_at(field, odd))

    def test_slope_along_and_stream_out(self):
        numbers = ref.stream(52)
        for k in range(60):
            field, plane = mixed_field(numbers, k % 5), Plane(ref.mixed_rows(numbers, next(numbers) % 5, 7))
            p, q = self.tables(field)
            self.assert_plane(slope_along(field, plane), ref.along(p, q, ref.table(plane.rows)))
            self.assert_plane(stream_out(field), ref.added(ref.slope_x(p), ref.slope_y(q)))
        self.assert_plane(slope_along(field_of("y", "-x"), plane_of("x^2 + y^2")), {})
        self.assert_plane(stream_out(field_of("3*x + y", "x*y - 4*y")), {(0, 0): Fraction(-1), (1, 0): Fraction(1)})

    def test_slopes_along(self):
        field, plane = field_of("y + 1/2*x^2", "-x"), plane_of("x*y + 3")
        p, q = self.tables(field)
        for many in range(7):
            found, expected = slopes_along(field, plane, many), ref.table(plane.rows)
            self.assertIs(type(found), tuple)
            self.assertEqual(len(found), many + 1)
            for one in found:
                self.assert_plane(one, expected)
                expected = ref.along(p, q, expected)
        for many in (-1, 7, 10 ** 30) + NO_INTEGERS:
            self.assert_bad_number("many", many, lambda: slopes_along(field, plane, many))

    def test_turned_back(self):
        numbers = ref.stream(53)
        for degree in range(5):
            field = mixed_field(numbers, degree)
            found = turned_back(field)
            self.assertIs(type(found), Field)
            self.assert_plane(found.p, ref.scaled(self.tables(field)[0], -1))
            self.assert_plane(found.q, ref.scaled(self.tables(field)[1], -1))
            self.assertTrue(turned_back(found) == field)


class TestChanged(FieldCase):

    def test_places_move_as_they_are_said_to(self):
        numbers = ref.stream(54)
        for k in range(60):
            field = mixed_field(numbers, k % 5)
            matrix, shift = [[ref.mixed_ratio(numbers, 5) for _ in range(many)] for many in (4, 2)]
            (a, b, c, d), (e, f) = ref.places((matrix, shift))
            if a * d == b * c:
                continue
            found = changed(field, matrix, shift)
            self.assertIs(type(found), Field)
            for x, y in ((0, 0), (1, 2), (Fraction(-3, 7), Fraction(5, 2))):
                there = ref.pair(a * x + b * y + e), ref.pair(c * x + d * y + f)
                p, q = (Fraction(*number) for number in field_at(field, (ref.pair(x), ref.pair(y))))
                self.assertEqual(field_at(found, there), (ref.pair(a * p + b * q), ref.pair(c * p + d * q)))
            self.assertEqual(max(found.p.degree(), found.q.degree()), max(field.p.degree(), field.q.degree()))

    def test_forth_and_back(self):
        field = field_of("x^2 - y + 1/3", "x*y^2 + 7")
        self.assertTrue(changed(field, (1, 0, 0, 1), (0, 0)) == field)
        there = changed(field, ((2, 1), 1, 5, [6, 2]), [4, (1, 2)])
        self.assertFalse(there == field)
        # The inverse of (2, 1, 5, 3) is (3, -1, -5, 2), and it brings (4, 1/2) to (23/2, -19).
        self.assertTrue(changed(there, (3, -1, -5, 2), ((-23, 2), 19)) == field)

    def test_known_changes(self):
        self.assertTrue(changed(field_of("x", "0"), (2, 0, 0, 1), (0, 0)) == field_of("x", "0"))
        self.assertTrue(changed(field_of("1", "0"), (2, 0, 3, 1), (0, 0)) == field_of("2", "3"))
        self.assertTrue(changed(field_of("x", "y"), (1, 0, 0, 1), (5, (1, 2))) == field_of("x - 5", "y - 1/2"))
        self.assertTrue(changed(field_of("y", "-x"), (0, 1, 1, 0), (0, 0)) == field_of("-y", "x"))

    def test_errors_in_their_order(self):
        field = field_of("x", "y")
        for odd in NO_PLACES + ((1, 2), (1, 2, 3), (1, 2, 3, 4, 5), (1, 2, 3, None), (1, 2, (3, 0), 4), (1, 2, 3, True)):
            self.assert_bad_row(odd, lambda: changed(field, odd, (0, 0)))
            self.assert_bad_row(odd, lambda: changed(field, odd, "no"))
        for odd in NO_PLACES:
            for matrix in ((1, 0, 0, 1), (0, 0, 0, 0)):
                self.assert_bad_row(odd, lambda: changed(field, matrix, odd))
        for matrix in ((0, 0, 0, 0), (1, 2, 2, 4), ((1, 2), (1, 3), 3, 2), (0, 5, 0, 7), [(2, 4), 1, (1, 2), 1]):
            self.assert_bad_number("determinant", 0, lambda: changed(field, matrix, (0, 0)))


class TestSeries(FieldCase):

    def test_a_turn(self):
        found = series(field_of("y", "-x"), 6)
        for k, (x, y) in enumerate(found):
            self.assert_plane(x, {((1, 0) if k % 2 == 0 else (0, 1)): Fraction((-1) ** (k // 2), factorial(k))})
            self.assert_plane(y, {((0, 1) if k % 2 == 0 else (1, 0)): Fraction((-1) ** ((k + 1) // 2), factorial(k))})

    def test_a_flow_to_infinity(self):
        # From x the flow of x' = x ** 2 is x / (1 - x * t), that of y' = y is y * e ** t.
        for k, (x, y) in enumerate(series(field_of("x^2", "y"), 6)):
            self.assert_plane(x, {(k + 1, 0): Fraction(1)})
            self.assert_plane(y, {(0, 1): Fraction(1, factorial(k))})

    def test_a_flow_over_a_curve(self):
        # x + t and the integral of (x + t) ** 4 with y as its start.
        for k, (x, y) in enumerate(series(field_of("1", "x^4"), 6)):
            self.assert_plane(x, ({(1, 0): Fraction(1)}, {(0, 0): Fraction(1)})[k] if k < 2 else {})
            expected = {(5 - k, 0): Fraction(comb(4, k - 1), k)} if 0 < k < 6 else {}
            self.assert_plane(y, {(0, 1): Fraction(1)} if k == 0 else expected)

    def test_mixed_fields(self):
        numbers = ref.stream(55)
        for degree in range(5):
            field = mixed_field(numbers, degree)
            p, q = self.tables(field)
            for order in range(7 if degree < 3 else 5):
                found = series(field, order)
                self.assertIs(type(found), tuple)
                self.assertEqual(len(found), order + 1)
                x, y = {(1, 0): Fraction(1)}, {(0, 1): Fraction(1)}
                for k, row in enumerate(found):
                    self.assertIs(type(row), tuple)
                    self.assert_plane(row[0], x)
                    self.assert_plane(row[1], y)
                    x, y = (ref.scaled(ref.along(p, q, one), Fraction(1, k + 1)) for one in (x, y))

    def test_long_numbers(self):
        numbers = ref.stream(56)
        field = mixed_field(numbers, 4, 10 ** 59)
        p, q = self.tables(field)
        x = ref.scaled(ref.along(p, q, p), Fraction(1, 2))
        self.assert_plane(series(field, 4)[2][0], x)

    def test_bad_orders(self):
        for order in (-1, 7, 10 ** 30) + NO_INTEGERS:
            self.assert_bad_number("order", order, lambda: series(field_of("x", "y"), order))


if __name__ == "__main__":
    unittest.main()
