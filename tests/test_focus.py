"""Points [31], [32] and [34]: focus numbers, and how often rows go round a place."""

import unittest
from fractions import Fraction

import reference as ref
from flowpapers.errors import BadRow, NoRest, NotRound
from flowpapers.fields import Field, changed
from flowpapers.planes import Plane, plane_of
from flowpapers.rests import focus, winding


def field_of(p, q):
    return Field(plane_of(p), plane_of(q))


def solved(rows):
    """One solution of equations, rows of factors and a sum, by elimination; None if there is none."""
    rows = [list(row) for row in rows]
    pivots, many = [], len(rows[0]) - 1
    for column in range(many):
        at = next((k for k in range(len(pivots), len(rows)) if rows[k][column]), None)
        if at is None:
            continue
        rows[len(pivots)], rows[at] = rows[at], rows[len(pivots)]
        pivot = [number / rows[len(pivots)][column] for number in rows[len(pivots)]]
        rows = [[one - row[column] * other for one, other in zip(row, pivot)] for row in rows]
        rows[len(pivots)] = pivot
        pivots.append(column)
    if any(row[-1] for row in rows[len(pivots):]):
        return None
    found = [Fraction(0)] * many
    for row, column in zip(rows, pivots):
        found[column] = row[-1]
    return found


def by_definition(field, place):
    """The focus number from all terms of degrees 3 and 4 at once: V and l solve one set of equations."""
    x, y = (ref.fraction(number) for number in place)
    over = {power: number for power, number in {(1, 0): Fraction(1), (0, 0): x}.items() if number}
    up = {power: number for power, number in {(0, 1): Fraction(1), (0, 0): y}.items() if number}
    p, q = (ref.put_in(ref.table(plane.rows), over, up) for plane in (field.p, field.q))
    a, b, c = p.get((1, 0), 0), p.get((0, 1), 0), q.get((1, 0), 0)
    sign = 1 if c > 0 else -1
    form = {(2, 0): sign * c, (1, 1): -2 * sign * a, (0, 2): -sign * b}
    powers = [(i, j) for i in range(5) for j in range(5) if 3 <= i + j <= 4]
    slopes = [ref.along(p, q, {power: Fraction(1)}) for power in powers]
    square = ref.multiplied(form, form)
    start = ref.along(p, q, form)
    rows = [
        [slope.get(power, Fraction(0)) for slope in slopes] + [-square.get(power, Fraction(0)), -start.get(power, Fraction(0))]
        for power in [(i, j) for i in range(5) for j in range(5) if i + j <= 4]
    ]
    return ref.pair(solved(rows)[-1])


class FocusCase(unittest.TestCase):

    def assert_bad(self, kind, fields, call):
        with self.assertRaises(kind) as seen:
            call()
        for name, value in fields.items():
            self.assertIs(getattr(seen.exception, name), value)

    def check(self, field, place, expected=None):
        told = focus(field, place)
        self.assertIs(type(told), tuple)
        self.assertEqual(told, by_definition(field, place))
        if expected is not None:
            self.assertEqual(told, ref.pair(expected))
        return Fraction(*told)


class TestFocus(FocusCase):

    def test_known(self):
        for p, q, expected in (
            ("-y - x^3 - x*y^2", "x - x^2*y - y^3", -2), ("-y + 3*x^3 + 3*x*y^2", "x + 3*x^2*y + 3*y^3", 6), ("-y", "x", 0), ("y", "-x", 0),
            ("y - x^3 - x*y^2", "-x - x^2*y - y^3", -2), ("-y + x^3", "x", Fraction(3, 4)), ("-y", "x - y^3", Fraction(-3, 4)),
            ("-y - x*y", "x + x^2", None), ("y", "-x + x^2", 0), ("y", "-x + x^3", 0), ("-y + x^2*y", "x + x^4 - x*y^2", 0),
            # The damped ones of van der Pol: y - x ** 3.
            ("y - x^3", "-x", Fraction(-3, 4)), ("2*y - x^3", "-2*x", Fraction(-3, 8)),
        ):
            self.check(field_of(p, q), (0, 0), expected)

    def test_terms_of_degree_2_alone(self):
        # The known number of the terms of degree 2: a * b with signs.
        for number in (-2, 1, 5):
            x2, xy = plane_of("x^2"), plane_of("x*y")
            field = Field(plane_of("-y") + number * x2 + xy, plane_of("x") + 3 * xy + x2)
            self.check(field, (0, 0))

    def test_drawn_fields(self):
        numbers = ref.stream(81)
        signs = set()
        for k in range(60):
            size = (2, 9, 10 ** 9)[k % 3]
            a, b = Fraction(*ref.mixed_ratio(numbers, size)), Fraction(*ref.mixed_ratio(numbers, size)) or Fraction(1)
            # The determinant, -a * a - b * c, is 1 + something.
            c = -(a * a + Fraction(1 + next(numbers) % 5, 1 + next(numbers) % 5)) / b
            parts = [ref.table(ref.mixed_rows(numbers, 1 + k % 6, size)) for _ in range(2)]
            rows = []
            for part, line in zip(parts, ({(1, 0): a, (0, 1): b}, {(1, 0): c, (0, 1): -a})):
                full = {power: number for power, number in {**part, (0, 0): 0, (1, 0): 0, (0, 1): 0, **line}.items() if number}
                rows.append(Plane(ref.rows_of(full)))
            field = Field(*rows)
            at = self.check(field, (0, 0))
            signs.add((at > 0) - (at < 0))
            # Moved away from (0, 0), and in other letters.
            place = (ref.mixed_ratio(numbers, 9), ref.mixed_ratio(numbers, 9))
            self.assertEqual(focus(changed(field, (1, 0, 0, 1), place), place), ref.pair(at))
            turned = changed(field, (1, 2, (1, 3), 1), place)
            other = self.check(turned, place)
            self.assertEqual((other > 0, other < 0), (at > 0, at < 0))
        self.assertEqual(signs, {-1, 0, 1})

    def test_long_numbers(self):
        numbers = ref.stream(82)
        p, q = (Plane([[0] * (2 - i) + row[2 - i:] if i < 2 else row for i, row in enumerate(ref.mixed_rows(numbers, 6, 10 ** 59))])
                for _ in range(2))
        field = Field(p + plane_of("-3*y"), q + plane_of("2*x"))
        self.check(field, (0, 0))
        place = (ref.mixed_ratio(numbers, 10 ** 39), ref.mixed_ratio(numbers, 10 ** 39))
        self.assertEqual(focus(changed(field, (1, 0, 0, 1), place), place), focus(field, (0, 0)))

    def test_errors_in_their_order(self):
        field = field_of("-y", "x")
        for odd in (None, True, 5, "12", (), (1,), (1, 2, 3), (1, None), ((1, 0), 1), {1: 2, 3: 4}, (0, 0.0), (False, 0)):
            for one in (field, field_of("x", "y"), field_of("1", "x")):
                self.assert_bad(BadRow, {"row": odd}, lambda: focus(one, odd))
        for place in ((1, 0), [(1, 5), 0], (0, (1, 10 ** 40))):
            self.assert_bad(NoRest, {"place": place}, lambda: focus(field, place))
            self.assert_bad(NoRest, {"place": place}, lambda: focus(field_of("x", "y"), place))
        for p, q in (("x", "y"), ("x", "-y"), ("-x - y", "x - y"), ("0", "0"), ("y", "0"), ("x", "0"), ("y^3", "-x^3"), ("-y + 1/1000000*x", "x")):
            for place in ((0, 0), [0, [0, 3]]):
                with self.assertRaises(NotRound) as seen:
                    focus(field_of(p, q), place)
                self.assertEqual(vars(seen.exception), {})


class TestWinding(FocusCase):

    SQUARE = ((-2, -2), (2, -2), (2, 2), (-2, 2))
    STAR = ((0, 10), (-6, -8), (10, 3), (-10, 3), (6, -8))
    EIGHT = ((-2, -2), (2, 2), (2, -2), (-2, 2))

    def test_known(self):
        for row, place, expected in (
            (self.SQUARE, (0, 0), 1), (self.SQUARE[::-1], (0, 0), -1), (self.SQUARE * 3, (0, 0), 3), (self.SQUARE, (3, 0), 0),
            (self.SQUARE, (-3, 0), 0), (self.SQUARE, (0, 3), 0), (self.SQUARE, (0, -3), 0), (self.SQUARE, (3, 2), 0), (self.SQUARE, (-3, -2), 0),
            (self.SQUARE, ((1999, 1000), (-1999, 1000)), 1), (self.SQUARE, ((2001, 1000), 0), 0), (self.STAR, (0, 0), 2),
            (self.STAR, (0, 8), 1), (self.STAR[::-1], (0, 0), -2), (self.STAR, (8, (5, 2)), 1), (self.STAR, (7, 7), 0),
            (self.EIGHT, (1, 0), -1), (self.EIGHT, (-1, 0), 1), (self.EIGHT, (0, 1), 0), (((0, 0), (5, 5)), (1, 2), 0),
            (self.SQUARE + ((-2, -2), (-2, 2), (2, 2), (2, -2)), (0, 0), 0),
            (((-1, 0), (0, -1), (1, 0), (0, 1)), (0, 0), 1), (((-1, 0), (1, 0), (0, 1)), (0, (1, 2)), 1),
        ):
            for start in range(len(row)):
                turned = row[start:] + row[:start]
                self.assertEqual(winding(turned, place), expected, (turned, place))
                self.assertEqual(winding([list(corner) for corner in turned], list(place)), expected)
            self.assertIs(type(winding(row, place)), int)

    def test_on_the_row(self):
        for row, place in (
            (self.SQUARE, (2, 2)), (self.SQUARE, (0, 2)), (self.SQUARE, (-2, 1)), (self.SQUARE, (2, (-4, 2))), (self.EIGHT, (0, 0)),
            (self.STAR, (0, 3)), (((0, 0), (5, 5)), (1, 1)), (((0, 0), (5, 5)), (5, 5)), (((0, 0), (3, 1)), (1, (1, 3))),
        ):
            self.assertIsNone(winding(row, place))
            self.assertIsNone(winding(row[::-1], place))

    def test_beside_what_lies_on_its_lines(self):
        self.assertEqual(winding(((0, 0), (5, 5)), (6, 6)), 0)
        self.assertEqual(winding(((0, 0), (5, 0), (5, 3)), (7, 0)), 0)
        self.assertEqual(winding(((0, 0), (5, 0), (5, 3)), (-1, 0)), 0)

    def test_by_angles(self):
        """The row goes round as often as it crosses a line that leads away from the place, whatever this line is."""
        numbers = ref.stream(83)
        seen = set()
        for _ in range(200):
            row = [(next(numbers) % 9, next(numbers) % 9) for _ in range(2 + next(numbers) % 12)]
            if any(one == other for one, other in zip(row, row[1:] + row[:1])):
                continue
            x, y = Fraction(next(numbers) % 17, 2), Fraction(next(numbers) % 17, 2)
            sides = list(zip(row, row[1:] + row[:1]))
            on_it = any(
                (c - a) * (y - b) == (d - b) * (x - a) and min(a, c) <= x <= max(a, c) and min(b, d) <= y <= max(b, d)
                for (a, b), (c, d) in sides)
            told = winding(row, (ref.pair(x), ref.pair(y)))
            if on_it:
                self.assertIsNone(told)
                continue
            # A line that goes away a little to the right of upwards passes no corner.
            total = 0
            for (a, b), (c, d) in sides:
                one, other = (a - x) * 1000 - (b - y), (c - x) * 1000 - (d - y)
                if one > 0 >= other or one <= 0 < other:
                    t = Fraction(one) / (one - other)
                    if b + t * (d - b) > y:
                        total += 1 if one > 0 else -1
            self.assertEqual(told, total)
            seen.add(total)
        self.assertTrue({-1, 0, 1, 2} <= seen)

    def test_errors(self):
        for odd in ref.ODD + (
            ((1, 1),), ((1, 1), (1, 1)), ((1, 1), (2, 2), (2, 2)), ((1, 1), (2, 2), (1, 1)), ((1, 1), ((2, 2), (3, 3))), ((1, 1), (1, 2, 3)),
            ((1, 1), None), ((1, 1), "12"), 3, {(1, 1): 1, (2, 2): 2}, self.SQUARE + ((1, True),),
        ):
            self.assert_bad(BadRow, {"row": odd}, lambda: winding(odd, (0, 0)))
            self.assert_bad(BadRow, {"row": odd}, lambda: winding(odd, None))
        for odd in (None, True, 5, "12", (), (1,), (1, 2, 3), (1, None), ((1, 0), 1), {1: 2}, (0, 0.0), (False, 0)):
            self.assert_bad(BadRow, {"row": odd}, lambda: winding(self.SQUARE, odd))

    def test_outermost_sizes(self):
        numbers = ref.stream(84)
        row = [(ref.mixed_ratio(numbers, 10 ** 59), ref.mixed_ratio(numbers, 10 ** 59)) for _ in range(40)]
        self.assertIs(type(winding(row, (ref.mixed_ratio(numbers, 10 ** 59), (1, 10 ** 59)))), int)
        self.assertIsNone(winding(row, row[17]))


if __name__ == "__main__":
    unittest.main()
