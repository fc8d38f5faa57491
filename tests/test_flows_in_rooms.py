"""Points [24], [25], [26] and [27]: which flows a room keeps, until when, and how a field turns along a row."""

import unittest
from fractions import Fraction
from math import isqrt

import papers
import reference as ref
from flowpapers.errors import BadNumber, BadRow
from flowpapers.fields import Field, changed, turned_back
from flowpapers.planes import Plane, plane_of
from flowpapers.polys import Poly
from flowpapers.rooms import AtRest, Kept, Out, Room, Turn, Until, is_kept, kept, kept_until, side_flow, turning
from flowpapers.stretches import Below, Split

SQUARE = Room(((-1, -1), (1, -1), (1, 1), (-1, 1)))
TRIANGLE = Room(((0, 0), (3, 0), (0, 3)))
NOTCH = Room(((0, 0), (4, 0), (4, 4), (2, 2), (0, 4)))
RING = Room(((-2, -2), (2, -2), (2, 2), (-2, 2)), (((-1, -1), (1, -1), (1, 1), (-1, 1)),))
ODD_BITS = (-1, 61, True, None, "3", 2.0, (1, 1), [3], 10 ** 100, Fraction(1))


def field_of(p, q):
    return Field(plane_of(p), plane_of(q))


INWARDS = field_of("-x", "-y")
RINGED = field_of("-y + 3*x - x^3 - x*y^2", "x + 3*y - x^2*y - y^3")


class FlowCase(unittest.TestCase):

    def assert_bad(self, kind, fields, call):
        with self.assertRaises(kind) as seen:
            call()
        for name, value in fields.items():
            self.assertIs(getattr(seen.exception, name), value)

    def assert_bad_bits(self, call):
        for bits in ODD_BITS:
            self.assert_bad(BadNumber, {"number": bits}, lambda: call(bits))
            with self.assertRaises(BadNumber) as seen:
                call(bits)
            self.assertEqual(seen.exception.what, "bits")

    def assert_pairs(self, *numbers):
        for number in numbers:
            self.assertIs(type(number), tuple)
            self.assertEqual(number, ref.pair(Fraction(*number)))

    def check_kept(self, field, room, expected):
        told = kept(field, room)
        self.assertIs(type(told), Kept if expected else Out)
        self.assertTrue(papers.is_kept_right(field, room, told))
        self.assertIs(is_kept(field, room, told), True)
        if expected:
            self.assertIs(type(told.papers), tuple)
        else:
            self.assert_pairs(told.at, told.number)
        return told


class TestSideFlow(FlowCase):

    def test_by_the_cross(self):
        numbers = ref.stream(61)
        for room in (SQUARE, TRIANGLE, NOTCH, RING, Room(RING.corners[::-1], RING.holes)):
            for degree in (0, 1, 2, 4, 6):
                p, q = Plane(ref.mixed_rows(numbers, degree, 9)), Plane(ref.mixed_rows(numbers, degree, 9))
                field = Field(p, q)
                for side, ends in enumerate(room.sides):
                    (a, b), (c, d) = ref.places(ends)
                    flow = side_flow(field, room, side)
                    self.assertIs(type(flow), Poly)
                    for t in (Fraction(0), Fraction(1), Fraction(1, 3), Fraction(-2), Fraction(9, 7)):
                        x, y = a + t * (c - a), b + t * (d - b)
                        one, other = (ref.value(ref.table(plane.rows), x, y) for plane in (p, q))
                        self.assertEqual(ref.poly_value(flow.numbers, t), (c - a) * other - (d - b) * one)

    def test_known(self):
        self.assertEqual(side_flow(field_of("x", "y"), SQUARE, 0).numbers, ((-2, 1),))
        self.assertEqual(side_flow(field_of("y", "x^2"), SQUARE, 0).numbers, ((2, 1), (-8, 1), (8, 1)))
        self.assertEqual(side_flow(field_of("0", "0"), SQUARE, 3).numbers, ())

    def test_no_index(self):
        for side in (-1, 4, 10 ** 30, True, False, None, "0", 0.0, (0, 1), [], Fraction(1)):
            self.assert_bad(BadNumber, {"what": "side", "number": side}, lambda: side_flow(INWARDS, SQUARE, side))
        self.assert_bad(BadNumber, {"number": 8}, lambda: side_flow(INWARDS, RING, 8))
        self.assertEqual(side_flow(INWARDS, RING, 7).degree(), 0)


class TestKept(FlowCase):

    def test_known_fields(self):
        for field, room, expected in (
            (INWARDS, SQUARE, True), (turned_back(INWARDS), SQUARE, False), (field_of("0", "0"), RING, True),
            (field_of("y", "-x"), SQUARE, False), (field_of("-x^3", "-y"), SQUARE, True), (INWARDS, TRIANGLE, True),
            (INWARDS, RING, False), (turned_back(INWARDS), RING, False), (RINGED, RING, True), (turned_back(RINGED), RING, False),
            # Sides that are just touched: the field runs along them, or is 0 at one point of them.
            (field_of("1 - x^2", "0"), SQUARE, True), (field_of("0", "x"), SQUARE, False), (field_of("0", "-x^2*y"), SQUARE, True),
            (field_of("x*y", "0"), SQUARE, False), (field_of("-9*x*y^2 + 6*x*y - x", "0"), SQUARE, True),
            (field_of("x - x*y", "x*y - y"), Room(((0, 0), (5, 0), (0, 5))), False),
            # At a corner that points inwards.
            (field_of("4 - 2*x", "-y"), NOTCH, True), (field_of("2 - x", "2 - y"), NOTCH, True), (field_of("5/2 - x", "5/2 - y"), NOTCH, False),
            (field_of("2 - x", "3/2 - y"), NOTCH, True),
        ):
            self.check_kept(field, room, expected)

    def test_by_a_thousandth(self):
        for number, expected in (((0, 1), True), ((1, 1000), True), ((-1, 1000), False), ((-1, 10 ** 60), False), ((1, 10 ** 60), True)):
            # What flows in along each side is (3 * t - 1) ** 2 there, or less, or more.
            p = plane_of("-9/4*x*y^2 - 3/2*x*y - 1/4*x") - number * plane_of("x")
            self.check_kept(Field(p, Plane(())), SQUARE, expected)
            self.check_kept(Field(Plane(()), p.moved((0, 1, 1, 0), (0, 0))), SQUARE, expected)

    def test_irrational_touch(self):
        touch = plane_of("-x*y^4 + x*y^2 - 1/4*x")
        self.check_kept(Field(touch, Plane(())), SQUARE, True)
        self.check_kept(Field(touch + (1, 10 ** 30) * plane_of("x"), Plane(())), SQUARE, False)

    def test_mixed(self):
        numbers = ref.stream(62)
        found = 0
        for _ in range(60):
            degree = next(numbers) % 5
            p, q = Plane(ref.mixed_rows(numbers, degree, 5)), Plane(ref.mixed_rows(numbers, degree, 5))
            room = (SQUARE, TRIANGLE, NOTCH, RING)[next(numbers) % 4]
            much = next(numbers) % 200
            field = Field(p - much * plane_of("x"), q - much * plane_of("y"))
            told = kept(field, room)
            found += isinstance(told, Kept)
            self.assertTrue(papers.is_kept_right(field, room, told))
            self.assertIs(is_kept(field, room, told), True)
            if isinstance(told, Kept):
                for flow in papers.flows_in(field, room):
                    row = [ref.pair(number) for number in flow]
                    self.assertTrue(all(ref.poly_value(row, Fraction(k, 40)) >= 0 for k in range(41)))
        self.assertTrue(5 < found < 55)

    def test_outermost_sizes(self):
        square = [(-50, -50), (50, -50), (50, 50), (-50, 50)]
        corners = [ref.places(((x, y),))[0] for x, y in square]
        bent = [tuple(ref.pair(number + Fraction(1, 10 ** 39 + k)) for k, number in enumerate(place)) for place in corners]
        room = Room(bent, [[(10 * k, 0), (10 * k + 1, 0), (10 * k, 1)] for k in range(3)])
        field = Field(Plane([[0, 0], [(-1, 10 ** 59)], [], [], [], [], [0]]), Plane([[0, (-10 ** 59, 10 ** 59 - 1)]]))
        self.check_kept(field, room, False)
        self.check_kept(field, Room(bent), True)


class TestIsKept(FlowCase):

    def compare(self, field, room, values):
        right = 0
        for value in values:
            expected = papers.is_kept_right(field, room, value)
            right += expected
            self.assertIs(is_kept(field, room, value), expected, vars(value) if hasattr(value, "__dict__") else value)
        return right

    def test_one_thing_changed(self):
        near = field_of("-9/4*x*y^2 - 3/2*x*y - 1/4*x - 1/1000*x", "-y")
        for field, room in ((INWARDS, SQUARE), (near, SQUARE), (RINGED, RING), (turned_back(RINGED), RING), (field_of("y", "0"), NOTCH)):
            told = kept(field, room)
            many = self.compare(field, room, papers.sampled(papers.bent(told), 1500))
            self.assertGreater(many, 0)

    def test_any_values(self):
        told = kept(INWARDS, SQUARE)
        for odd in ref.ODD + (Kept, Out, Below(0, -1), Split(Poly((1,)), Poly((1,)), ()), told.papers, list(told.papers), INWARDS, SQUARE,
                              Until(1, told, None), Kept(None), Kept(()), Kept(7), Out(None, None, None), Out(0, 0, 0), [told], (told,)):
            self.assertIs(is_kept(INWARDS, SQUARE, odd), False)
        self.assertIs(is_kept(INWARDS, SQUARE, Kept(list(told.papers))), True)

    def test_outs(self):
        back = turned_back(INWARDS)
        for out, expected in (
            (Out(0, 0, -2), True), (Out(0, (1, 2), (-2, 1)), True), (Out(3, (2, 4), (-6, 3)), True), (Out(3, 1, -2), True), (Out(0, 0, 2), False),
            (Out(4, 0, -2), False), (Out(-1, 0, -2), False), (Out(True, 0, -2), False), (Out(0, (3, 2), -2), False), (Out(0, (-1, 2), -2), False),
            (Out(0, [1, 2], -2), True), (Out(0, ([1], 2), -2), False), (Out(0, 0, -1), False), (Out(0, True, -2), False), (Out((0, 1), 0, -2), False),
        ):
            self.assertIs(is_kept(back, SQUARE, out), expected)
            self.assertIs(is_kept(INWARDS, SQUARE, out), False)
        self.assertIs(is_kept(back, SQUARE, kept(INWARDS, SQUARE)), False)

    def test_objects_keep_what_they_are_given(self):
        row = [1, [2]]
        objects = (Kept(row), Out(row, row, row), Until(row, row, row), Turn(row), AtRest(row, row, row))
        row.append(3)
        for told in objects:
            for value in vars(told).values():
                self.assertEqual(value, (1, [2]))
        for one, other in ((Kept(()), Kept(())), (Out(1, 2, 3), Out(1, 2, 3)), (Turn(1), Turn(1)), (AtRest(1, 2, 3), AtRest(1, 2, 3)),
                           (Until(1, 2, 3), Until(1, 2, 3))):
            self.assertFalse(one == other)
        self.assertEqual(list(vars(Until(1, 2, 3))), ["number", "kept", "out"])
        self.assertEqual(list(vars(AtRest(1, 2, 3))), ["side", "low", "high"])


class TestKeptUntil(FlowCase):

    def check_until(self, field, other, room, bits, number):
        told = kept_until(field, other, room, bits)
        self.assertIs(type(told), Until)
        self.assert_pairs(told.number)
        self.assertEqual(Fraction(*told.number), number)
        for one, paper in ((told.number, told.kept), (ref.pair(Fraction(*told.number) + Fraction(1, 2 ** bits)), told.out)):
            together = Field(field.p + one * other.p, field.q + one * other.q)
            self.assertTrue(papers.is_kept_right(together, room, paper))
        self.assertIs(type(told.kept), Kept)
        self.assertIs(type(told.out), Out)

    def test_until_a_ratio(self):
        outwards = turned_back(INWARDS)
        for bits in range(21):
            gap = Fraction(1, 2 ** bits)
            self.check_until(INWARDS, outwards, SQUARE, bits, 1)
            self.check_until(INWARDS, Field(3 * outwards.p, 3 * outwards.q), SQUARE, bits, Fraction(1, 3) // gap * gap)
            self.check_until(field_of("0", "0"), outwards, SQUARE, bits, 0)
        self.check_until(INWARDS, Field((1, 9999) * outwards.p, (1, 9999) * outwards.q), SQUARE, 20, 9999)

    def test_until_a_number_that_is_no_ratio(self):
        # Along x = 1 what flows in is 1 + y * y - t * (1 + y): from 0 on until t is 2 * 2 ** (1/2) - 2.
        field, other = field_of("-x - x*y^2", "-3*y"), field_of("1/2 + 1/2*y + 1/2*x + 1/2*x*y", "0")
        for bits in (0, 1, 5, 20):
            # The greatest k with (k / 2 ** bits + 2) ** 2 at most 8.
            k = isqrt(8 * 4 ** bits) - 2 * 2 ** bits
            self.check_until(field, other, SQUARE, bits, Fraction(k, 2 ** bits))

    def test_for_all(self):
        self.assertIsNone(kept_until(INWARDS, INWARDS, SQUARE, 5))
        self.assertIsNone(kept_until(INWARDS, field_of("0", "0"), SQUARE, 0))
        self.assertIsNone(kept_until(field_of("0", "0"), RINGED, RING, 7))

    def test_not_at_all(self):
        for other in (INWARDS, turned_back(INWARDS), field_of("0", "0")):
            told = kept_until(turned_back(INWARDS), other, SQUARE, 3)
            self.assertIs(type(told), Out)
            self.assertTrue(papers.is_kept_right(turned_back(INWARDS), SQUARE, told))

    def test_constants_to_60_bits(self):
        room = Room(((0, 0), (1, 0), (0, 1)))
        for bits in (21, 59, 60):
            gap = Fraction(1, 2 ** bits)
            self.assertIs(type(kept_until(field_of("1", "1"), field_of("0", "-1"), room, bits)), Out)
            self.check_until(field_of("0", "0"), field_of("1", "0"), room, bits, 0)
            strip = Room(((0, 0), (7, 0), (7, 1), (0, 1)))
            field, other = field_of("3 - x", "1/3 - y"), field_of("0", "1")
            self.check_until(field, other, strip, bits, Fraction(2, 3) // gap * gap)

    def test_mixed(self):
        numbers = ref.stream(63)
        found = {Until: 0, Out: 0, type(None): 0}
        for _ in range(60):
            room = (SQUARE, TRIANGLE, NOTCH)[next(numbers) % 3]
            center = plane_of("x") - 1, plane_of("y") - 1
            field = Field(-(next(numbers) % 30) * center[0], -(next(numbers) % 30 + 1) * center[1])
            if room is SQUARE:
                field = Field(field.p - next(numbers) % 30 * plane_of("x"), field.q - next(numbers) % 30 * plane_of("y"))
            degree = next(numbers) % 4
            other = Field(Plane(ref.mixed_rows(numbers, degree, 6)), Plane(ref.mixed_rows(numbers, degree, 6)))
            if next(numbers) % 4 == 0:
                other = field
            bits = next(numbers) % 13
            told = kept_until(field, other, room, bits)
            found[type(told)] += 1
            if isinstance(told, Until):
                self.check_until(field, other, room, bits, Fraction(*told.number))
            elif told is None:
                self.assertIs(type(kept(other, room)), Kept)
            else:
                self.assertTrue(papers.is_kept_right(field, room, told))
        self.assertTrue(min(found.values()) > 3, found)

    def test_errors(self):
        self.assert_bad_bits(lambda bits: kept_until(INWARDS, INWARDS, SQUARE, bits))
        self.assert_bad_bits(lambda bits: kept_until(turned_back(INWARDS), INWARDS, SQUARE, bits))


class TestTurning(FlowCase):

    def check(self, field, row, number):
        for bits in (0, 20, 60):
            told = turning(field, row, bits)
            self.assertIs(type(told), Turn)
            self.assertEqual((told.number, type(told.number)), (number, int))

    def complex_power(self, many):
        """x + i * y to a power, as a field."""
        p, q = Plane(((1,),)), Plane(())
        x, y = plane_of("x"), plane_of("y")
        for _ in range(many):
            p, q = p * x - q * y, p * y + q * x
        return Field(p, q)

    def test_known_powers(self):
        square = ((-1, -1), (1, -1), (1, 1), (-1, 1))
        for many in range(7):
            field = self.complex_power(many)
            for row in (square, square[1:] + square[:1], [list(place) for place in square], ((2, 1), (-3, 5), (-1, -7))):
                self.check(field, row, many)
                self.check(Field(field.p, -field.q), row, -many)
                self.check(Field(field.q, field.p), row, -many)
                self.check(turned_back(field), row, many)
                self.check(field, row[::-1], -many)
                self.check(field, list(row) + list(row), 2 * many)
            self.check(field, ((3, 3), (4, 3), (3, 4)), 0)

    def test_rows_of_two_places(self):
        self.check(self.complex_power(1), ((1, 1), (2, -5)), 0)
        self.check(self.complex_power(3), ((1, 0), (5, 0)), 0)
        self.check(field_of("1", "0"), ((1, 0), (5, 0)), 0)
        self.check(field_of("x^2 + y", "x"), ((-1, 1), (1, 1)), 0)

    def test_rows_that_cross_themselves(self):
        eight = ((-1, -1), (1, 1), (1, -1), (-1, 1))
        moved = changed(self.complex_power(1), (1, 0, 0, 1), ((1, 2), 0))
        self.check(moved, eight, -1)
        self.check(changed(self.complex_power(2), (1, 0, 0, 1), ((-1, 2), 0)), eight, 2)
        # A star of five points goes round its middle twice.
        star = ((0, 10), (6, -8), (-10, 3), (10, 3), (-6, -8))
        self.check(self.complex_power(1), star, -2)
        self.check(self.complex_power(3), star[::-1], 6)

    def test_fields_that_are_0_at_corners_or_along_sides_in_one_letter(self):
        square = ((-1, -1), (1, -1), (1, 1), (-1, 1))
        self.check(field_of("y + 1", "x^2 + 1"), square, 0)
        self.check(field_of("x^2 + 1", "y + 1"), square, 0)
        self.check(field_of("x^2*y + x", "y - x"), ((-1, -1), (1, -1), (1, 1), (-1, 1)), 1)
        self.check(field_of("x*y", "x^2 - y^2 + 1/3"), ((-2, 0), (0, -2), (2, 0), (0, 2)), -2)
        # p, or q, is 0 along whole sides.
        self.check(field_of("y^2 - 1", "x^2 + y^2"), square, 0)
        self.check(field_of("x^2*y^2 - x^2 - y^2 + 1", "3 + x"), ((-1, -2), (1, -1), (1, 1)), 0)

    def test_numbers_by_small_steps(self):
        """The whole turn by adding up quarters: exact values at many points of each side."""
        numbers = ref.stream(64)
        seen = set()
        for _ in range(80):
            degree = 1 + next(numbers) % 4
            p, q = ref.mixed_rows(numbers, degree, 4), ref.mixed_rows(numbers, degree, 4)
            row = [(next(numbers) % 7 - 3, next(numbers) % 7 - 3) for _ in range(2 + next(numbers) % 5)]
            if any(one == other for one, other in zip(row, row[1:] + row[:1])):
                continue
            told = turning(Field(Plane(p), Plane(q)), row, 5)
            expected = self.turned(ref.table(p), ref.table(q), row)
            if expected is not None:
                self.assertIs(type(told), Turn)
                self.assertEqual(told.number, expected)
                seen.add(expected)
        self.assertTrue({-1, 0, 1} <= seen)

    def turned(self, p, q, row):
        """How often the field turns, if no step turns by more than a quarter; otherwise None."""
        many, total, ahead = 200, 0, None
        points = []
        for (a, b), (c, d) in zip(row, row[1:] + row[:1]):
            points += [(a + Fraction((c - a) * k, many), b + Fraction((d - b) * k, many)) for k in range(many)]
        values = [(ref.value(p, x, y), ref.value(q, x, y)) for x, y in points]
        for (a, b), (c, d) in zip(values, values[1:] + values[:1]):
            if a * c + b * d <= 0:
                return None
            # The way crosses the line to the right.
            if b < 0 <= d and a * d - b * c > 0:
                total += 1
            if d < 0 <= b and a * d - b * c < 0:
                total -= 1
        return total

    def assert_rest(self, told, side, low, high):
        self.assertIs(type(told), AtRest)
        self.assertEqual((told.side, told.low, told.high), (side, low, high))

    def test_rests(self):
        square = ((-1, -1), (1, -1), (1, 1), (-1, 1))
        field = field_of("x^2 - 1", "y^2 - 1")
        for bits in (0, 3, 60):
            self.assert_rest(turning(field, square, bits), 0, (0, 1), (0, 1))
            self.assert_rest(turning(field, ((0, 0), (2, 2), (0, 2)), bits), 0, (1, 2), (1, 2))
            self.assert_rest(turning(field, ((0, 0), (1, 1), (0, 2)), bits), 0, (1, 1), (1, 1))
            self.assert_rest(turning(field, ((0, 0), (0, 2), (1, 1)), bits), 1, (1, 1), (1, 1))
            self.assert_rest(turning(field, ((0, 0), (0, 2), (3, -1)), bits), 1, (1, 3), (1, 3))
            self.assert_rest(turning(field, ((2, 0), (0, 2)), bits), 0, (1, 2), (1, 2))
            self.assert_rest(turning(field_of("x", "x"), ((1, 0), (3, 0), (0, 1), (0, 5)), bits), 1, (1, 1), (1, 1))
            # Whole sides, and both letters 0 throughout.
            self.assert_rest(turning(field_of("x", "x*y"), ((1, 0), (2, 3), (1, 2), (0, 3), (0, -1)), bits), 2, (1, 1), (1, 1))
            self.assert_rest(turning(field_of("x", "x*y"), ((0, 3), (0, -1), (1, 2)), bits), 0, (0, 1), (0, 1))
            self.assert_rest(turning(field_of("0", "0"), square, bits), 0, (0, 1), (0, 1))
        self.assert_rest(turning(field, ((0, 1), (3, 1)), 2), 0, (1, 3), (1, 3))

    def test_rests_at_numbers_that_are_no_ratios(self):
        # The first of two on one side, and one on a later side.
        field = field_of("x^2 - 2", "y")
        self.assert_rest(turning(field, ((-2, 0), (2, 0), (0, 9)), 3), 0, (1, 8), (1, 4))
        self.assert_rest(turning(field, ((2, 0), (-2, 0), (0, 9)), 10), 0, (149, 1024), (75, 512))
        self.assert_rest(turning(field, ((0, 9), (2, 0), (0, 0)), 3), 1, (1, 4), (3, 8))
        # A common divisor without zeros on the side, and one with some.
        self.assert_rest(turning(field_of("x*y^2 - 2*x", "y^2 - 2"), ((1, 0), (1, 4)), 2), 0, (1, 4), (1, 2))
        self.check(field_of("x*y^2 + x", "y^2 + 1"), ((1, 0), (1, 4)), 0)
        self.check(field_of("x*y^2 - 2*x", "y^2 - 2"), ((1, 2), (1, 4), (5, 3)), 0)

    def test_errors(self):
        field = field_of("x", "y")
        for odd in ref.ODD + (
            ((1, 1),), ((1, 1), (1, 1)), ((1, 1), (2, 2), (2, 2)), ((1, 1), (2, 2), (1, 1)), ((1, 1), (2, 4), ((2, 2), 1)), ((1, 1), ((2, 2), (3, 3))),
            ((1, 1), None), ((1, 1), (1, 2, 3)), ((1, 1), (1, 0.5)), ((1, 1), "12"), ((1, True), (2, 2)), 3, {(1, 1): 1, (2, 2): 2},
        ):
            self.assert_bad(BadRow, {"row": odd}, lambda: turning(field, odd, 3))
            self.assert_bad(BadRow, {"row": odd}, lambda: turning(field, odd, None))
        self.assert_bad_bits(lambda bits: turning(field, ((1, 1), (2, 2)), bits))
        self.assert_bad_bits(lambda bits: turning(field, ((-1, -1), (2, 2)), bits))

    def test_a_kept_room_without_holes(self):
        """Where no rest lies on its sides the number is 1: a fact that both parts must tell."""
        for field, room in ((INWARDS, SQUARE), (field_of("2 - x", "1 - y"), NOTCH), (field_of("1 - x", "1 - y"), TRIANGLE),
                            (field_of("-x + 1/2*y^3", "-y + 1/3*x^2"), SQUARE)):
            self.assertIs(type(kept(field, room)), Kept)
            self.check(field, room.corners, 1)

    def test_outermost_sizes(self):
        numbers = ref.stream(65)
        field = Field(Plane(ref.mixed_rows(numbers, 6, 10 ** 59)), Plane(ref.mixed_rows(numbers, 6, 10 ** 59)))
        row = [tuple(ref.mixed_ratio(numbers, 10 ** 39) for _ in range(2)) for _ in range(32)]
        self.assertIs(type(turning(field, row, 60)), Turn)


if __name__ == "__main__":
    unittest.main()
