"""Points [28], [29], [30], [33] and [34]: all places of rest, and their kinds."""

import unittest
from decimal import Decimal, getcontext
from fractions import Fraction
from math import isqrt

import reference as ref
from flowpapers.errors import BadNumber, BadRow, NoRest, Shared
from flowpapers.fields import Field, bend_at, changed
from flowpapers.linear import Kind, kind
from flowpapers.planes import Plane, plane_of
from flowpapers.rests import Rest, kind_at, rests, winding
from flowpapers.rooms import Room, Turn, turning

getcontext().prec = 120
WIDE = Room(((-9, -9), (9, -9), (9, 9), (-9, 9)))
UNIT = Room(((0, 0), (1, 0), (1, 1), (0, 1)))
HOLED = Room(((-4, -4), (4, -4), (4, 4), (1, 0), (-4, 4)), (((-1, -1), (0, -2), (1, -1)), ((-3, -3), (-2, -3), (-3, -2))))
ROOMS = (WIDE, UNIT, HOLED, Room(((0, 0), (5, 1), (1, 5))), Room(((-9, -5), (7, -8), (2, 9)), (((-1, -1), (-1, 1), (1, 0)),)))
ODD_BITS = (-1, 61, True, None, "3", 2.0, (1, 1), [3], 10 ** 100, Fraction(1))


def field_of(p, q):
    return Field(plane_of(p), plane_of(q))


class Surd:
    """The number a + b * root, root being the square root of an integer that is no square, or b being 0."""

    def __init__(self, a, b=0, root=1):
        self.a, self.b, self.root = Fraction(a), Fraction(b), root

    def _other(self, other):
        return other if isinstance(other, Surd) else Surd(other, 0, self.root)

    def __add__(self, other):
        other = self._other(other)
        return Surd(self.a + other.a, self.b + other.b, max(self.root, other.root))

    def __mul__(self, other):
        other = self._other(other)
        root = max(self.root, other.root)
        return Surd(self.a * other.a + self.b * other.b * root, self.a * other.b + self.b * other.a, root)

    def sign(self):
        one, other = (self.a > 0) - (self.a < 0), (self.b > 0) - (self.b < 0)
        if one * other >= 0:
            return one or other
        first, second = self.a ** 2, self.b ** 2 * self.root
        return one if first > second else other

    def is_ratio(self):
        return self.b == 0

    def decimal(self):
        value = Decimal(self.a.numerator) / self.a.denominator
        return value + Decimal(self.b.numerator) / self.b.denominator * Decimal(self.root).sqrt()

    def cell(self, bits):
        if self.is_ratio():
            return (ref.pair(self.a),) * 2
        k = int((self.decimal() * 2 ** bits).to_integral_value(rounding="ROUND_FLOOR"))
        assert (self + Fraction(-k, 2 ** bits)).sign() > 0 > (self + Fraction(-k - 1, 2 ** bits)).sign()
        return ref.pair(Fraction(k, 2 ** bits)), ref.pair(Fraction(k + 1, 2 ** bits))


def surd_value(one, x, y):
    total = Surd(0)
    for (i, j), number in one.items():
        part = Surd(number)
        for factor in [x] * i + [y] * j:
            part = part * factor
        total = total + part
    return total


def spot(x, y, room):
    """1 inside a room, 0 on a side, -1 beyond."""
    found = -1
    for (a, b), (c, d) in (ref.places(side) for side in room.sides):
        turn = ((y + -b) * (c - a) + (x + -a) * (b - d)).sign()
        if turn == 0 and (x + -a).sign() * (x + -c).sign() <= 0 and (y + -b).sign() * (y + -d).sign() <= 0:
            return 0
        if ((y + -b).sign() < 0) != ((y + -d).sign() < 0) and (turn > 0) == ((y + -d).sign() < 0):
            found = -found
    return found


def zeros_of(a, b, c):
    """The zeros of a * t * t + b * t + c, as Surds; None if all t are."""
    if a == 0:
        return ([Surd(-c / b)] if b else None if c == 0 else [])
    inside = b * b - 4 * a * c
    if inside < 0:
        return []
    root = inside.numerator * inside.denominator
    if isqrt(root) ** 2 == root:
        side = Fraction(isqrt(root), inside.denominator)
        return [Surd((-b + one * side) / (2 * a)) for one in (-1, 1)]
    return [Surd(-b / (2 * a), Fraction(one, inside.denominator) / (2 * a), root) for one in (-1, 1)]


def places_on(line, conic):
    """The places at which a line a * x + b * y + c and a polynomial of degree 2 at most are 0; None for a whole line."""
    a, b, c = line
    start = (-c / a, Fraction(0)) if a else (Fraction(0), -c / b)
    over = {power: number for power, number in {(0, 0): start[0], (1, 0): -b}.items() if number}
    up = {power: number for power, number in {(0, 0): start[1], (1, 0): a}.items() if number}
    along = ref.put_in(conic, over, up)
    found = zeros_of(*[along.get((k, 0), Fraction(0)) for k in (2, 1, 0)])
    return None if found is None else [(t * -b + start[0], t * a + start[1]) for t in found]


def line_table(line):
    a, b, c = line
    return {power: number for power, number in {(1, 0): a, (0, 1): b, (0, 0): c}.items() if number}


class RestCase(unittest.TestCase):

    def told(self, field, room, bits):
        found = rests(field, room, bits)
        self.assertIs(type(found), tuple)
        for rest in found:
            self.assertIs(type(rest), Rest)
            for pair in (rest.x, rest.y):
                self.assertEqual([type(pair)] + [type(number) for number in pair], [tuple, tuple, tuple])
            self.assertEqual((type(rest.det), type(rest.trace), type(rest.on_side)), (int, int, bool))
        return [(rest.x, rest.y, rest.det, rest.trace, rest.on_side) for rest in found]

    def assert_bad(self, kind, fields, call):
        with self.assertRaises(kind) as seen:
            call()
        for name, value in fields.items():
            self.assertIs(getattr(seen.exception, name), value)

    def assert_shared(self, field, room, rows):
        for bits in (0, 60):
            with self.assertRaises(Shared) as seen:
                rests(field, room, bits)
            self.assertIs(type(seen.exception.plane), Plane)
            self.assertEqual(seen.exception.plane.rows, Plane(rows).rows)
        self.assert_bad(BadNumber, {"what": "bits", "number": None}, lambda: rests(field, room, None))


class TestRests(RestCase):

    def test_ratios(self):
        def at(x, y, det, trace, on_side=False):
            return (ref.pair(x),) * 2, (ref.pair(y),) * 2, det, trace, on_side
        for p, q, room, expected in (
            ("x", "y", WIDE, [at(0, 0, 1, 1)]), ("y", "x", WIDE, [at(0, 0, -1, 0)]), ("-y", "x", UNIT, [at(0, 0, 1, 0, True)]),
            ("1/2 - x", "1/3 - y", UNIT, [at(Fraction(1, 2), Fraction(1, 3), 1, -1)]), ("x - 1", "y - 1/7", UNIT, [at(1, Fraction(1, 7), 1, 1, True)]),
            ("x - 2", "y", UNIT, []), ("3", "x", WIDE, []), ("x", "7", UNIT, []), ("0", "-2", WIDE, []), ("1/5", "0", WIDE, []),
            ("x", "x - 1", WIDE, []), ("x^2 + 1", "y", WIDE, []), ("x^2 - x", "y^2 - y", UNIT,
             [at(0, 0, 1, -1, True), at(0, 1, -1, 0, True), at(1, 0, -1, 0, True), at(1, 1, 1, 1, True)]),
            # Double ones.
            ("y - x^2", "y", WIDE, [at(0, 0, 0, 1)]), ("x^2", "y^2", WIDE, [at(0, 0, 0, 0)]), ("x^3", "y", WIDE, [at(0, 0, 0, 1)]),
            ("y^2 - x", "x*y", WIDE, [at(0, 0, 0, -1)]), ("x^2 + y^2", "x*y", WIDE, [at(0, 0, 0, 0)]), ("x^2 - y^2", "x^2 + y^2 - 2*y", WIDE,
             [at(-1, 1, -1, -1), at(0, 0, 0, -1), at(1, 1, 1, 1)]),
            ("x^3 + y^3", "x*y^2", WIDE, [at(0, 0, 0, 0)]),
            # At a corner that points inwards, on sides of holes and at their corners, in holes.
            ("x - 1", "y", HOLED, [at(1, 0, 1, 1, True)]), ("x", "y + 1", HOLED, [at(0, -1, 1, 1, True)]), ("x", "y + 3/2", HOLED, []),
            ("x", "y + 2", HOLED, [at(0, -2, 1, 1, True)]), ("x + 5/2", "y + 5/2", HOLED, [at(Fraction(-5, 2), Fraction(-5, 2), 1, 1, True)]),
            ("x - 1", "y - 1/1000", HOLED, []), ("x", "1001/1000 + y", HOLED, []), ("x", "999/1000 + y", HOLED, [at(0, Fraction(-999, 1000), 1, 1)]),
            # Equal x, and equal x + y, x - y, x + 2 * y.
            ("x", "y^3 - y", WIDE, [at(0, -1, 1, 1), at(0, 0, -1, 0), at(0, 1, 1, 1)]),
            ("x + y", "y^3 - y", WIDE, [at(-1, 1, 1, 1), at(0, 0, -1, 0), at(1, -1, 1, 1)]),
            ("x - y", "y^3 - y", WIDE, [at(-1, -1, 1, 1), at(0, 0, -1, 0), at(1, 1, 1, 1)]),
            ("x + 2*y", "y^3 - y", WIDE, [at(-2, 1, 1, 1), at(0, 0, -1, 0), at(2, -1, 1, 1)]),
        ):
            for bits in (0, 1, 60):
                self.assertEqual(self.told(field_of(p, q), room, bits), expected, (p, q))

    def test_numbers_that_are_no_ratios(self):
        half, whole = ((1, 2), (3, 4)), ((-3, 4), (-1, 2))
        self.assertEqual(self.told(field_of("2*x^2 - 1", "x - y"), WIDE, 2), [(whole, whole, 1, -1, False), (half, half, -1, 1, False)])
        # One of both letters alone.
        self.assertEqual(self.told(field_of("2*x^2 - 1", "y - 1/3"), WIDE, 2), [
            (whole, ((1, 3), (1, 3)), -1, -1, False), (half, ((1, 3), (1, 3)), 1, 1, False)])
        self.assertEqual(self.told(field_of("x - 1/3", "2*y^2 - 1"), WIDE, 2), [
            (((1, 3), (1, 3)), whole, -1, -1, False), (((1, 3), (1, 3)), half, 1, 1, False)])
        # On sides, and at equal x.
        self.assertEqual(self.told(field_of("2*x^2 - 1", "y^2 - y"), UNIT, 2), [
            (half, ((0, 1), (0, 1)), -1, 1, True), (half, ((1, 1), (1, 1)), 1, 1, True)])
        # Both x in one cell: the order is that of the numbers themselves.
        self.assertEqual(self.told(field_of("2*x^2 - 1 - 1/10*y", "y^2 - y"), UNIT, 2), [
            (half, ((0, 1), (0, 1)), -1, 1, True), (half, ((1, 1), (1, 1)), 1, 1, True)])
        self.assertEqual(self.told(field_of("2*x^2 - 1 - 1/10 + 1/10*y", "y^2 - y"), UNIT, 2), [
            (half, ((1, 1), (1, 1)), 1, 1, True), (half, ((0, 1), (0, 1)), -1, 1, True)])

    def expected(self, lines, planes, p, q, room, bits):
        """What must be told for p the product of lines, q that of planes; None if they share a line."""
        one, other = ref.table(p.rows), ref.table(q.rows)
        det = ref.added(
            ref.multiplied(ref.slope_x(one), ref.slope_y(other)), ref.multiplied(ref.slope_y(one), ref.slope_x(other)), -1)
        trace = ref.added(ref.slope_x(one), ref.slope_y(other))
        rows = {}
        for line in lines:
            for plane in planes:
                places = places_on(line, plane)
                if places is None:
                    return None
                for x, y in places:
                    where = spot(x, y, room)
                    if where >= 0:
                        key = tuple(number.decimal().quantize(Decimal(10) ** -70) for number in (x, y))
                        rows[key] = (x.cell(bits), y.cell(bits), surd_value(det, x, y).sign(), surd_value(trace, x, y).sign(), where == 0)
        return [rows[key] for key in sorted(rows)]

    def test_products_of_lines_and_circles(self):
        numbers = ref.stream(71)
        many = shared = on_side = double = 0
        for _ in range(160):
            size = 2 + next(numbers) % 4
            lines = [self.line(numbers, size) for _ in range(1 + next(numbers) % 3)]
            planes = [line_table(self.line(numbers, size)) for _ in range(next(numbers) % 2)]
            planes.append(ref.table(ref.mixed_rows(numbers, 2, size)))
            if next(numbers) % 3 == 0:
                planes = [line_table(self.line(numbers, size)) for _ in range(1 + next(numbers) % 3)]
            if not all(planes):
                continue
            p = q = Plane(((1,),))
            for line in lines:
                p = p * Plane(ref.rows_of(line_table(line)))
            for plane in planes:
                q = q * Plane(ref.rows_of(plane))
            room, bits = ROOMS[next(numbers) % len(ROOMS)], next(numbers) % 61
            expected = self.expected(lines, planes, p, q, room, bits)
            field = Field(p, q) if next(numbers) % 2 else Field(q, p)
            if expected is None:
                shared += 1
                with self.assertRaises(Shared):
                    rests(field, room, bits)
                continue
            if field.p == q:
                expected = self.expected_turned(expected, field, p, q, room, bits, lines, planes)
            self.assertEqual(self.told(field, room, bits), expected)
            many += len(expected)
            on_side += sum(row[4] for row in expected)
            double += sum(row[2] == 0 for row in expected)
        self.assertTrue(many > 200 and shared > 3 and on_side > 10 and double > 5, (many, shared, on_side, double))

    def expected_turned(self, rows, field, p, q, room, bits, lines, planes):
        """The same places with the letters p and q exchanged: det turns its sign, trace is another one."""
        turned = self.expected(lines, planes, field.p, field.q, room, bits)
        self.assertEqual([row[:2] for row in turned], [row[:2] for row in rows])
        self.assertEqual([-row[2] for row in turned], [row[2] for row in rows])
        return turned

    def line(self, numbers, size):
        while True:
            a, b, c = (Fraction(next(numbers) % (2 * size + 1) - size) for _ in range(3))
            if a or b:
                return a, b, c

    def test_cubic_ones(self):
        # y = x ** 3 - 3 * x + 1 with three zeros, near -1.88, 0.35 and 1.53.
        cells = {}
        for bits in (0, 5, 60):
            found = self.told(field_of("x^3 - 3*x - y + 1", "y"), WIDE, bits)
            self.assertEqual([row[2:] for row in found], [(1, 1, False), (-1, -1, False), (1, 1, False)])
            cells[bits] = [row[0] for row in found]
            for (low, high), _, _, _, _ in found:
                values = [Fraction(*end) ** 3 - 3 * Fraction(*end) + 1 for end in (low, high)]
                self.assertLess(values[0] * values[1], 0)
                self.assertEqual(Fraction(*high) - Fraction(*low), Fraction(1, 2 ** bits))
            self.assertEqual([row[1] for row in found], [((0, 1), (0, 1))] * 3)
        self.assertEqual(cells[0], [((-2, 1), (-1, 1)), ((0, 1), (1, 1)), ((1, 1), (2, 1))])

    def test_nine_of_them(self):
        field = field_of("x^3 - 4*x - 1/100*y", "y^3 - 4*y + 1/100*x")
        found = self.told(field, WIDE, 3)
        self.assertEqual(len(found), 9)
        self.assertEqual([row[2] for row in found], [1, -1, 1, -1, 1, -1, 1, -1, 1])
        self.assertEqual([row[3] for row in found], [1, 1, 1, 1, -1, 1, 1, 1, 1])

    def test_changed_letters(self):
        """All rests move as their letters do, whatever these are."""
        field = field_of("x^2 + y^2 - 5", "x*y - 2")
        for matrix in ((1, 0, 0, 1), (0, 1, 1, 0), (1, 1, 0, 1), (2, 1, 1, 1), (1, -2, 3, 1), ((1, 3), (1, 2), 0, (-1, 5))):
            moved = changed(field, matrix, (0, 0))
            a, b, c, d = (ref.fraction(number) for number in matrix)
            places = sorted((a * x + b * y, c * x + d * y) for x, y in ((1, 2), (2, 1), (-1, -2), (-2, -1)))
            self.assertEqual([row[:2] for row in self.told(moved, WIDE, 4)], [((ref.pair(x),) * 2, (ref.pair(y),) * 2) for x, y in places])

    def test_long_numbers(self):
        x, y = Fraction(1234567, 9999991), Fraction(-9999973, 7654321)
        p = (plane_of("x") - ref.pair(x)) * (plane_of("x + 3*y") + (9999937, 3))
        q = (plane_of("y") - ref.pair(y)) * (plane_of("x - y") * (9999929, 9999971) - (1, 9999973))
        found = self.told(Field(p, q), WIDE, 60)
        self.assertIn(((ref.pair(x),) * 2, (ref.pair(y),) * 2), [row[:2] for row in found])
        numbers = ref.stream(72)
        for _ in range(4):
            field = Field(Plane(ref.mixed_rows(numbers, 3, 9999999)), Plane(ref.mixed_rows(numbers, 3, 9999999)))
            for row in self.told(field, WIDE, 60):
                for low, high in row[:2]:
                    self.assertTrue(low == high or Fraction(*high) - Fraction(*low) == Fraction(1, 2 ** 60))

    def test_bad_bits(self):
        for bits in ODD_BITS:
            for field in (field_of("x", "y"), field_of("x", "x"), field_of("0", "0"), field_of("1", "0")):
                with self.assertRaises(BadNumber) as seen:
                    rests(field, UNIT, bits)
                self.assertEqual(seen.exception.what, "bits")
                self.assertIs(seen.exception.number, bits)

    def test_objects_keep_what_they_are_given(self):
        row = [1, [2]]
        told = Rest(row, row, None, "a", row)
        row.append(3)
        self.assertEqual(vars(told), {"x": (1, [2]), "y": (1, [2]), "det": None, "trace": "a", "on_side": (1, [2])})
        self.assertEqual(list(vars(told)), ["x", "y", "det", "trace", "on_side"])
        self.assertFalse(Rest(1, 2, 3, 4, 5) == Rest(1, 2, 3, 4, 5))


class TestShared(RestCase):

    def test_common_divisors(self):
        for p, q, rows in (
            ("x", "x", ((), (1,))), ("3*x", "-1/2*x", ((), (1,))), ("2*y", "x*y", ((0, 1),)), ("0", "3*x - 6*y + 1", (((1, 3), -2), (1,))),
            ("5*x^2 + y", "0", ((0, (1, 5)), (), (1,))), ("x^2 - y^2", "x^2 + 2*x*y + y^2", ((0, 1), (1,))),
            ("x*y - x", "y^2 - 1", ((-1, 1),)), ("x^3 + x*y^2", "2*x^2*y + 2*y^3", ((0, 0, 1), (), (1,))),
            ("x^2 + y^2 + 1", "x^3 + x*y^2 + x", ((1, 0, 1), (), (1,))), ("x^3 - y", "2*x^3 - 2*y", ((0, -1), (), (), (1,))),
            ("x*y^2", "x^2*y", ((), (0, 1))), ("2*y^3 + 2", "y^2 - y + 1", ((1, -1, 1),)), ("x*y + 1", "x^2*y + x + 2*x*y + 2", ((1,), (0, 1))),
            ("x - 100", "2*x*y - 200*y", ((-100,), (1,))),
        ):
            for room in (WIDE, UNIT):
                self.assert_shared(field_of(p, q), room, rows)

    def test_both_0(self):
        self.assert_shared(field_of("0", "0"), UNIT, ())

    def test_drawn_divisors(self):
        numbers = ref.stream(73)
        for _ in range(60):
            size = (2, 9, 10 ** 6)[next(numbers) % 3]
            shared = Plane(ref.mixed_rows(numbers, 1 + next(numbers) % 2, size))
            p, q = (shared * Plane(ref.mixed_rows(numbers, next(numbers) % 2, size)) for _ in range(2))
            if shared.degree() < 1 or p.degree() + q.degree() < 2:
                continue
            with self.assertRaises(Shared) as seen:
                rests(Field(p, q), UNIT, 3)
            told = seen.exception.plane
            # What is told divides both, is divided by what is known, and has its lead 1.
            degree = told.degree()
            lead = max((i + j, i, number) for (i, j), number in ref.table(told.rows).items())
            self.assertEqual((lead[0], lead[2]), (degree, 1))
            self.assertTrue(degree >= shared.degree())
            if degree == shared.degree():
                number = max((i + j, i, number) for (i, j), number in ref.table(shared.rows).items())[2]
                self.assertEqual(told * ref.pair(number), shared)

    def test_none(self):
        for p, q in (("x", "x + 1"), ("x^2 + y^2", "x^2 + y^2 + 1"), ("x*y", "x + y + 1"), ("0", "7"), ("7", "0"), ("7", "8")):
            self.assertIs(type(rests(field_of(p, q), UNIT, 0)), tuple)


class TestKindAt(RestCase):

    def test_words(self):
        for matrix, word in (
            ((1, 0, 0, -1), "saddle"), ((0, 1, -1, 0), "round"), ((-1, 1, -1, -1), "turning in"), ((1, 1, -1, 1), "turning out"),
            ((-1, 0, 0, -2), "straight in"), ((2, 0, 0, 2), "straight out"), ((-1, 0, 0, 0), "line in"), ((0, 0, 3, 5), "line out"),
            ((0, 1, 0, 0), "sliding"), ((0, 0, 0, 0), "still"),
        ):
            a, b, c, d = matrix
            x, y = plane_of("x") - (1, 3), plane_of("y") - 2
            field = Field(a * x + b * y + x * x, c * x + d * y - x * y * y)
            for place in (((1, 3), 2), [[2, 6], (2, 1)], ((1, 3), (4, 2))):
                told = kind_at(field, place)
                self.assertIs(type(told), Kind)
                self.assertEqual((told.trace, told.determinant, told.word), (ref.pair(a + d), ref.pair(a * d - b * c), word))

    def test_by_kind_and_bend(self):
        numbers = ref.stream(74)
        for _ in range(20):
            p, q = Plane(ref.mixed_rows(numbers, 6, 10 ** 40)), Plane(ref.mixed_rows(numbers, 6, 10 ** 40))
            place = (ref.mixed_ratio(numbers, 10 ** 40), ref.mixed_ratio(numbers, 10 ** 40))
            field = Field(p - p.at(place), q - q.at(place))
            (a, b), (c, d) = bend_at(field, place)
            self.assertEqual(vars(kind_at(field, place)), vars(kind((a, b, c, d))))

    def test_no_places_and_no_rests(self):
        field = field_of("x", "y - 1")
        for odd in ref.ODD + ((1, None), (True, 1), ((1, 0), 1), {1: 2}, (1, 2, 3), [1], ((1, 2, 3), 4), (1.0, 2), "12"):
            if odd in ((1, 0), [1, 0], (1, -1)):
                continue
            self.assert_bad(BadRow, {"row": odd}, lambda: kind_at(field, odd))
        for place in ((0, 0), (1, 1), [(1, 10 ** 30), 1], ((0, 5), (10 ** 30 + 1, 10 ** 30)), (1, 0), [1, 0]):
            self.assert_bad(NoRest, {"place": place}, lambda: kind_at(field, place))
        self.assertEqual(kind_at(field, ([0, 5], (3, 3))).word, "straight out")


class TestFacts(RestCase):

    def test_the_sum_over_all_rests_that_a_row_goes_round(self):
        numbers = ref.stream(75)
        found = set()
        for _ in range(120):
            p, q = (Plane(ref.mixed_rows(numbers, 1 + next(numbers) % 3, 3)) for _ in range(2))
            if next(numbers) % 2:
                # Near to the square and the cube of x + i * y, and with the second letter turned.
                powers = (("x^2 - y^2", "2*x*y"), ("x^3 - 3*x*y^2", "3*x^2*y - y^3"), ("x^3 - 3*x*y^2", "y^3 - 3*x^2*y"))[next(numbers) % 3]
                p, q = ((1, 9) * plane + plane_of(text) for plane, text in zip((p, q), powers))
            field = Field(p, q)
            row = [((next(numbers) % 31 - 15, 2), (next(numbers) % 31 - 15, 2)) for _ in range(2 + next(numbers) % 5)]
            if any(one == other for one, other in zip(row, row[1:] + row[:1])):
                continue
            told = turning(field, row, 3)
            try:
                all_rests = rests(field, WIDE, 60)
            except Shared:
                continue
            if not isinstance(told, Turn) or any(rest.det == 0 for rest in all_rests):
                continue
            # The middle of a cell stands for a rest in it, whose distance from the row is far greater here.
            total = sum(rest.det * self.around(row, rest) for rest in all_rests)
            self.assertEqual(told.number, total)
            found.add(total)
        self.assertTrue(len(found) >= 4, found)

    def around(self, row, rest):
        place = tuple(ref.pair((Fraction(*low) + Fraction(*high)) / 2) for low, high in (rest.x, rest.y))
        return winding(row, place)


if __name__ == "__main__":
    unittest.main()
