"""Points [17] to [21]: what flows keep."""

import unittest
from fractions import Fraction

import reference as ref
from flowpapers.errors import BadNumber
from flowpapers.fields import Field, factor_of, kept_lines, kept_uprights, products, slope_along, unchanging
from flowpapers.planes import Plane, plane_of
from flowpapers.polys import Poly
from test_fields import NO_INTEGERS, FieldCase, field_of, mixed_field

POWERS = [(total - j, j) for total in range(1, 7) for j in range(total + 1)]
STILL = field_of("0", "0")


def rotated(plane):
    """The field along whose flows a Plane is unchanging."""
    return Field(plane.slope_y(), -plane.slope_x())


def reduced(rows):
    """Rows of Fractions in lowest form, by plain steps from the first column on."""
    rows, done = [list(row) for row in rows], 0
    for column in range(len(rows[0]) if rows else 0):
        at = next((k for k in range(done, len(rows)) if rows[k][column]), None)
        if at is not None:
            rows[done], rows[at] = rows[at], rows[done]
            rows[done] = [number / rows[done][column] for number in rows[done]]
            for k, row in enumerate(rows):
                if k != done:
                    rows[k] = [number - row[column] * less for number, less in zip(row, rows[done])]
            done += 1
    return rows[:done]


def solutions(equations, many):
    """All solutions of equations without a constant, in lowest form."""
    solved, found = reduced(equations), []
    leads = [next(k for k, number in enumerate(row) if number) for row in solved]
    for free in range(many):
        if free not in leads:
            row = [Fraction(0)] * many
            row[free] = Fraction(1)
            for lead, equation in zip(leads, solved):
                row[lead] = -equation[free]
            found.append(row)
    return reduced(found)


class TestUnchanging(FieldCase):

    def expected(self, field, degree):
        powers = [power for power in POWERS if sum(power) <= degree]
        p, q = self.tables(field)
        slopes = [ref.along(p, q, {power: Fraction(1)}) for power in powers]
        places = sorted({place for slope in slopes for place in slope})
        rows = solutions([[slope.get(place, Fraction(0)) for slope in slopes] for place in places], len(powers))
        return [{power: number for power, number in zip(powers, row) if number} for row in rows]

    def check(self, field, degree):
        found = unchanging(field, degree)
        self.assertIs(type(found), tuple)
        expected = self.expected(field, degree)
        self.assertEqual(len(found), len(expected))
        for plane, numbers in zip(found, expected):
            self.assert_plane(plane, numbers)
        return found

    def test_known_ones(self):
        self.assertEqual([plane.rows for plane in unchanging(field_of("y", "-x"), 4)],
                         [plane_of(text).rows for text in ("x^2 + y^2", "x^4 + 2*x^2*y^2 + y^4")])
        self.assertEqual([plane.rows for plane in unchanging(STILL, 2)],
                         [plane_of(text).rows for text in ("x", "y", "x^2", "x*y", "y^2")])
        self.assertEqual([plane.rows for plane in unchanging(field_of("1", "0"), 3)],
                         [plane_of(text).rows for text in ("y", "y^2", "y^3")])
        self.assertEqual([plane.rows for plane in unchanging(field_of("2", "3"), 2)],
                         [plane_of(text).rows for text in ("x - 2/3*y", "x^2 - 4/3*x*y + 4/9*y^2")])
        self.assertEqual(unchanging(field_of("x", "y"), 6), ())
        self.assertEqual([plane.rows for plane in unchanging(field_of("x", "-2*y"), 6)],
                         [plane_of(text).rows for text in ("x^2*y", "x^4*y^2")])
        # Sums of the planted one and its square: the first powers of all others have no number.
        self.assertEqual([plane.rows for plane in unchanging(rotated(plane_of("x + x^2 + y^2")), 4)],
                         [plane_of(text).rows for text in ("x + y^2 - 2*x^3 - 2*x*y^2 - x^4 - 2*x^2*y^2 - y^4",
                                                           "x^2 + 2*x^3 + 2*x*y^2 + x^4 + 2*x^2*y^2 + y^4")])

    def test_each_degree(self):
        for field in (field_of("y", "-x"), STILL, field_of("x*y", "-y^2"), field_of("1 + x", "0"), field_of("x^2*y", "x*y^2 - x")):
            for degree in range(7):
                self.check(field, degree)
            self.assertEqual(unchanging(field, 0), ())

    def test_planted_ones(self):
        numbers = ref.stream(61)
        for degree, most in ((1, 5), (2, 4), (2, 6), (3, 6), (4, 4), (5, 5), (5, 6)):
            plane = Plane(ref.mixed_rows(numbers, degree, 9))
            found = self.check(rotated(plane), most)
            self.assertEqual(len(found), most // degree)
        # With a factor, and a plane that does not change.
        plane = plane_of("x^2 - 3*y^2 + 1/7*x")
        field = rotated(plane)
        for factor in (plane_of("x + 2"), plane, plane_of("1/5")):
            self.assertEqual(len(self.check(Field(field.p * factor, field.q * factor), 4)), 2)

    def test_mixed_fields(self):
        numbers = ref.stream(62)
        for degree in range(5):
            self.check(mixed_field(numbers, degree), 4)

    def test_long_numbers(self):
        numbers = ref.stream(63)
        self.assertEqual(unchanging(mixed_field(numbers, 4, 10 ** 59), 6), ())
        plane = Plane(ref.mixed_rows(numbers, 2, 10 ** 58))
        plane = plane - plane.at((0, 0))
        found = unchanging(rotated(plane), 6)
        self.assertEqual(len(found), 3)
        self.assertTrue(unchanging(rotated(plane), 3)[0] * plane.rows[1][0] == plane)
        for one in found:
            self.assert_plane(slope_along(rotated(plane), one), {})

    def test_numbers_that_are_hard_for_remainders(self):
        # 2424833 divides 2 ** 512 + 1, and 45592577 divides 2 ** 1024 + 1.
        for number in (2424833, 45592577, 2424833 * 45592577, 2 ** 512 + 1, (2 ** 512 + 1) * (2 ** 1024 + 1), 2 ** 512, 2 ** 4000 + 3):
            turn = Field(Plane(((0, number),)), Plane(((), (-1,))))
            self.assertEqual([plane.rows for plane in unchanging(turn, 3)],
                             [Plane(((0, 0, number), (), (1,))).rows])
            turn = Field(Plane(((0, 1),)), Plane(((), ((-1, number),))))
            self.assertEqual([plane.rows for plane in unchanging(turn, 2)],
                             [Plane(((0, 0, number), (), (1,))).rows])
            field = Field(Plane(((), (number,))), Plane(((0, -1),)))
            x, y = plane_of("x"), plane_of("y")
            self.assertEqual(products(field, (x, y)), (((1, 1), (number, 1)),))
            self.assertEqual(products(field, (y, x)), (((1, 1), (1, number)),))
            self.assertEqual(products(Field(field.p, Plane(())), (x,)), ())

    def test_bad_degrees(self):
        for degree in (-1, 7, 10 ** 30) + NO_INTEGERS:
            self.assert_bad_number("degree", degree, lambda: unchanging(field_of("x", "y"), degree))


class TestFactorOf(FieldCase):

    def check(self, field, plane, factor):
        """Whether the factor is found, None if there is none."""
        found = factor_of(field, plane)
        if factor is None:
            self.assertIsNone(found)
        else:
            self.assertIs(type(found), Plane)
            self.assertEqual(found.rows, factor.rows)
            self.assertTrue(found * plane == slope_along(field, plane))

    def test_known_factors(self):
        wolf = field_of("x - x*y", "x*y - y")
        for text, factor in (
            ("x", "1 - y"), ("y", "x - 1"), ("x*y", "x - y"), ("x^2*y", "1 - 2*y + x"), ("7", "0"), ("-3/4*x", "1 - y"),
            ("x + y", None), ("x - 1", None), ("x + 1/1000", None), ("x*y + 1", None),
        ):
            self.check(wolf, plane_of(text), None if factor is None else plane_of(factor))
        turn = field_of("y", "-x")
        for text, factor in (("x^2 + y^2", "0"), ("x^2 + y^2 - 1", "0"), ("x^2 - y^2", None), ("x", None), ("2", "0")):
            self.check(turn, plane_of(text), None if factor is None else plane_of(factor))
        circle = field_of("y + x - x^3 - x*y^2", "-x + y - x^2*y - y^3")
        self.check(circle, plane_of("x^2 + y^2 - 1"), plane_of("-2*x^2 - 2*y^2"))
        self.check(circle, plane_of("x^2 + y^2 - 2"), None)
        for text in ("x", "x*y^5 + 3", "1"):
            self.check(STILL, plane_of(text), Plane(()))
        self.check(field_of("0", "x^3"), plane_of("x^2"), Plane(()))
        self.check(field_of("1", "0"), plane_of("x^2"), None)
        self.check(field_of("x^2", "0"), plane_of("x^2"), plane_of("2*x"))
        self.check(field_of("0", "1"), plane_of("x*y"), None)

    def test_planted_factors(self):
        numbers = ref.stream(64)
        for k in range(80):
            plane = Plane(ref.mixed_rows(numbers, 1 + k % 4, 9))
            other = mixed_field(numbers, k % 3, 5)
            # plane times a field, and a field along which plane is unchanging.
            field = Field(plane * other.p + plane.slope_y() * 3, plane * other.q - plane.slope_x() * 3)
            self.check(field, plane, slope_along(other, plane))
            if plane.slope_x().degree() >= 0:
                # Its slope in x is left over, which is of a lower degree.
                self.check(Field(field.p + 1, field.q), plane, None)

    def test_a_rest_that_is_found_late(self):
        # All but the last steps of the division go through.
        plane = plane_of("x^3 + x*y + 2")
        for rest in ("1", "y", "x", "y^6", "x^2", "1/10000000000"):
            field = Field(plane * plane_of("x^2 + y"), plane_of(rest))
            self.check(field, plane, None)

    def test_no_numbers(self):
        for field in (STILL, field_of("x", "y")):
            for plane in (Plane(()), plane_of("x - x")):
                self.assert_bad_number("plane", 0, lambda: factor_of(field, plane))

    def test_long_numbers(self):
        numbers = ref.stream(65)
        plane = Plane(ref.mixed_rows(numbers, 3, 10 ** 55))
        other = mixed_field(numbers, 3, 10 ** 55)
        self.check(Field(plane * other.p, plane * other.q), plane, slope_along(other, plane))
        self.check(other, plane, None)


class TestProducts(FieldCase):

    def check(self, field, planes, rows):
        found = products(field, planes)
        self.assertEqual(found, tuple(tuple(ref.pair(ref.fraction(number)) for number in row) for row in rows))
        self.assertIs(type(found), tuple)
        for row in found:
            self.assertIs(type(row), tuple)

    def test_known_products(self):
        wolf = field_of("x - x*y", "x*y - y")
        x, y = plane_of("x"), plane_of("y")
        self.check(wolf, (), ())
        self.check(wolf, [], ())
        self.check(wolf, (x,), ())
        self.check(wolf, (x, y), ())
        self.check(wolf, [x, x], ((1, -1),))
        self.check(wolf, (x, y, x * y), ((1, 1, -1),))
        self.check(wolf, (x * y, x * x, y), ((1, (-1, 2), -1),))
        self.check(wolf, (x, x * x, x * x * x), ((1, 0, (-1, 3)), (0, 1, (-2, 3))))
        self.check(field_of("y", "-x"), (plane_of("x^2 + y^2"), plane_of("x^2 + y^2 - 1")), ((1, 0), (0, 1)))
        self.check(field_of("x", "-2*y"), (x, y), ((1, (1, 2)),))
        self.check(field_of("x", "y"), (y, x), ((1, -1),))
        self.check(field_of("x^2 - 1", "y^2 - 1"), [plane_of(text) for text in ("x - 1", "x + 1", "y - 1", "y + 1")],
                   ((1, -1, -1, 1),))
        self.check(field_of("x^2 - 1", "y^2 - 1"), [plane_of(text) for text in ("x - y", "x - 1", "y - 1", "y + 1")],
                   ((1, -1, 0, -1),))
        self.check(STILL, (x, y, x + y + 3), ((1, 0, 0), (0, 1, 0), (0, 0, 1)))

    def test_planted_products(self):
        numbers = ref.stream(66)
        for k in range(40):
            lines = [Plane(ref.mixed_rows(numbers, 1, 9)) for _ in range(2)]
            if min(line.degree() for line in lines) < 1:
                continue
            other = mixed_field(numbers, 1, 9)
            field = Field(lines[0] * lines[1] * other.p, lines[0] * lines[1] * other.q)
            planes = lines + [lines[0] * lines[1], lines[0] * lines[0]][:1 + k % 2]
            factors = [ref.table(factor_of(field, plane).rows) for plane in planes]
            places = sorted({place for factor in factors for place in factor})
            rows = [[factor.get(place, Fraction(0)) for factor in factors] for place in places]
            self.check(field, planes, [[ref.pair(number) for number in row] for row in solutions(rows, len(planes))])
            self.assertGreaterEqual(len(products(field, planes)), 1 + k % 2)

    def test_the_first_wrong_plane_counts(self):
        wolf = field_of("x - x*y", "x*y - y")
        x, y = plane_of("x"), plane_of("y")
        for wrong in (plane_of("x + 1"), plane_of("3"), Plane(()), plane_of("x + y"), None, 3, "x", (1, 2), Poly((0, 1)), ((), (1,))):
            for planes, index in (
                ((wrong,), 0), ((x, wrong), 1), ((x, y, wrong), 2), ((wrong, x), 0), ((x, wrong, wrong), 1), ([x, y, x, wrong], 3),
                ((x, wrong, None, x), 1), ((wrong, wrong), 0),
            ):
                self.assert_bad_number("plane", index, lambda: products(wolf, planes))


class TestKeptLines(FieldCase):

    def assert_poly(self, poly, numbers):
        self.assertIs(type(poly), Poly)
        self.assertEqual(poly.numbers, Poly(numbers).numbers)

    def test_known_lines(self):
        cross = field_of("x^2 - 1", "y^2 - 1")
        for slope, numbers in (
            (0, (-1, 0, 1)), (1, (0, 1)), (-1, (1,)), (2, (1,)), ((1, 2), (1,)), ([1, 1], (0, 1)), ((-3, 3), (1,)), ((0, 5), (-1, 0, 1)),
        ):
            self.assert_poly(kept_lines(cross, slope), numbers)
        self.assert_poly(kept_uprights(cross), (-1, 0, 1))

    def test_all_lines(self):
        for field, slope in ((STILL, 0), (STILL, (3, 7)), (field_of("1", "2"), 2), (field_of("x*y", "1/2*x*y"), (1, 2)), (field_of("y", "0"), 0)):
            self.assert_poly(kept_lines(field, slope), ())
        for field in (STILL, field_of("0", "x + y")):
            self.assert_poly(kept_uprights(field), ())

    def test_lines_that_are_no_ratios_and_double_zeros(self):
        for text, numbers in (
            ("y^2 - 2", (-2, 0, 1)), ("y^3 - 2*y", (0, -2, 0, 1)), ("y^2 + 1", (1, 0, 1)), ("y^4 - 4*y^2 + 4", (-2, 0, 1)),
            ("3*y^2", (0, 1)), ("5", (1,)), ("x*y^2 - 2*x + y^3 - 2*y", (-2, 0, 1)), ("x*y + x^2*y^2", (0, 1)), ("x + y", (1,)),
            ("x*y^3 - x*y + y^2 - y", (0, -1, 1)), ("1/3*y^6 - y^5", (0, -3, 1)), ("x*y - x + y^2 + 1", (1,)),
        ):
            self.assert_poly(kept_lines(field_of("x + 1", text), 0), numbers)
        for text, numbers in (
            ("x^2 - 2", (-2, 0, 1)), ("x^3 - 2*x", (0, -2, 0, 1)), ("x^4 - 4*x^2 + 4", (-2, 0, 1)), ("3*x^2", (0, 1)), ("5", (1,)),
            ("x^2*y - 2*y + x^3 - 2*x", (-2, 0, 1)), ("x*y + x^2*y^2", (0, 1)), ("x + y", (1,)), ("x^3*y - x*y + x^2 - x", (0, -1, 1)),
            ("y", (1,)), ("x*y^4", (0, 1)),
        ):
            self.assert_poly(kept_uprights(field_of(text, "x + 1")), numbers)

    def test_planted_lines(self):
        numbers = ref.stream(67)
        for k in range(60):
            slope = ref.mixed_ratio(numbers, 4)
            zeros = sorted({ref.fraction(ref.mixed_ratio(numbers, 4)) for _ in range(1 + k % 3)})
            m, other = ref.fraction(slope), mixed_field(numbers, 1, 5)
            part, expected = plane_of("1"), Poly((1,))
            for zero in zeros:
                part = part * Plane([[ref.pair(-zero), 1], [ref.pair(-m)]])
                expected = expected * Poly((ref.pair(-zero), 1))
            doubled = part * (part if k % 2 else 1)
            field = Field(other.p, ref.pair(m) * other.p + doubled * plane_of("1 + x^2"))
            self.assert_poly(kept_lines(field, slope), expected.numbers)
            for zero in zeros:
                line = Plane([[ref.pair(-zero), 1], [ref.pair(-m)]])
                self.assertIsNotNone(factor_of(field, line))

    def test_bad_slopes(self):
        for slope in ref.ODD + ((1, 2, 3), [0, 0]):
            for field in (STILL, field_of("x", "y")):
                with self.assertRaises(BadNumber) as seen:
                    kept_lines(field, slope)
                self.assertEqual(seen.exception.what, "slope")
                self.assertIs(seen.exception.number, slope)

    def test_long_numbers(self):
        numbers = ref.stream(68)
        field = mixed_field(numbers, 6, 10 ** 59)
        self.assert_poly(kept_lines(field, ref.mixed_ratio(numbers, 10 ** 59)), (1,))
        self.assert_poly(kept_uprights(field), (1,))


if __name__ == "__main__":
    unittest.main()
