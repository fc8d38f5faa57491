"""Points [9], [10] and [14]: polynomials of one letter from 0 to 1."""

import unittest
from fractions import Fraction

import reference as ref
from flowpapers.errors import BadNumber
from flowpapers.polys import Poly, divided
from flowpapers.stretches import Below, Split, between, count_zeros, is_split, never_below, zeros

TINY = (1, 10 ** 12)


def line(top, bottom=1):
    """The Poly t less a ratio."""
    return Poly(((-top, bottom), 1))


def power(poly, many):
    found = Poly((1,))
    for _ in range(many):
        found = found * poly
    return found


T = Poly((0, 1))
HALF = line(1, 2)
# Zeros at the square roots of 1/2, 1/3, at (3 - the square root of 5) / 2, and at no real number.
ROOT_2, ROOT_3, GOLDEN, NEVER = Poly((-1, 0, 2)), Poly((-1, 0, 3)), Poly((1, -3, 1)), Poly((1, -1, 1))

# Polynomials that are from 0 on from 0 to 1.
KEPT = (
    Poly(()), Poly((1,)), Poly(((1, 7),)), T, 1 - T, T * (1 - T), power(HALF, 2), power(HALF, 4), T * power(HALF, 6),
    (1 - T) * power(line(1, 3), 2), power(ROOT_2, 2), power(ROOT_2, 4) * T, power(ROOT_2 * HALF, 2), NEVER,
    power(HALF, 2) + TINY, power(line(1, 3), 2) + TINY, power(ROOT_2, 2) + TINY, power(HALF, 6) + TINY,
    power(line(1, 3) * line(2, 3), 2) + TINY, power(ROOT_3 * ROOT_2, 2) + (1, 10 ** 40), T * power(T, 2), power(1 - T, 3),
    power(T * (1 - T), 3), 5 * power(line(2, 7), 2) * power(line(5, 7), 4) * NEVER, Poly((2, -1)), Poly((1, 1)),
    T + TINY, 1 - T + TINY, power(GOLDEN, 2) * power(ROOT_3, 2), power(line(3, 2), 3) * -1, line(-1, 5) * NEVER,
    power(line(1, 9), 12), T * (1 - T) * power(ROOT_2, 2) * power(ROOT_3, 2) * (1, 3), Poly((0, 0, 0, 1, -1)),
    power(line(1, 3), 2) * (power(HALF, 2) + TINY) * (power(line(1, 5), 2) + (1, 10 ** 30)),
    T * (power(HALF, 2) + TINY), (1 - T) * (power(HALF, 2) + TINY), T * (1 - T) * (power(line(1, 3), 2) + TINY),
)

# Polynomials that are below 0 somewhere from 0 to 1.
BROKEN = (
    Poly((-1,)), Poly(((-1, 10 ** 100),)), -T, T - 1, T * (T - 1), HALF, -HALF, ROOT_2, -ROOT_2, GOLDEN, -GOLDEN, power(HALF, 3),
    -power(HALF, 2), power(HALF, 2) - TINY, power(line(1, 3), 2) - TINY, power(ROOT_2, 2) - TINY, power(HALF, 6) - TINY,
    -power(ROOT_2, 2), power(ROOT_2, 3), T - TINY, 1 - T - TINY, T * power(HALF, 2) - (1, 10 ** 60), -power(T, 2), -power(1 - T, 2),
    power(HALF, 2) * line(1, 4), power(HALF, 2) * line(1, 2), -power(HALF * line(1, 4) * line(3, 4), 2), -power(T, 12),
    power(HALF, 2) * (power(HALF, 2) - (1, 10 ** 40)), -(T * (1 - T)), power(line(1, 3), 5) * power(line(1, 2), 4),
    power(line(1, 2) * line(1, 4) * line(3, 4) * line(1, 8), 2) * line(1, 3), HALF * ROOT_2, -NEVER,
    T * (power(HALF, 2) - TINY), (1 - T) * (power(line(1, 3), 2) - TINY), T * (1 - T) * -1,
)


def value(poly, t):
    return ref.poly_value(poly.numbers, t)


def sign(number):
    return (number > 0) - (number < 0)


class StretchCase(unittest.TestCase):

    def assert_pair(self, number):
        self.assertIs(type(number), tuple)
        self.assertEqual([type(part) for part in number], [int, int])
        self.assertEqual(number, ref.pair(Fraction(*number)))

    def assert_bad(self, what, number, call):
        with self.assertRaises(BadNumber) as seen:
            call()
        self.assertEqual(seen.exception.what, what)
        self.assertIs(type(seen.exception.number), type(number))
        self.assertEqual(seen.exception.number, number)

    def assert_split(self, poly, told):
        self.assertIs(type(told), Split)
        self.assertTrue(poly == told.rest * told.root * told.root)
        self.assertIs(type(told.cuts), tuple)
        for cut in told.cuts:
            self.assert_pair(cut)
        ends = [Fraction(0), *[Fraction(*cut) for cut in told.cuts], Fraction(1)]
        self.assertEqual(ends, sorted(set(ends)))
        for low, high in zip(ends, ends[1:]):
            self.assertGreaterEqual(min(ref.stretch_corners(told.rest.numbers, low, high)), 0)
        self.assertIs(is_split(poly, told), True)

    def assert_below(self, poly, told):
        self.assertIs(type(told), Below)
        self.assert_pair(told.at)
        self.assert_pair(told.number)
        self.assertTrue(0 <= Fraction(*told.at) <= 1)
        self.assertEqual(Fraction(*told.number), value(poly, Fraction(*told.at)))
        self.assertLess(told.number[0], 0)
        self.assertIs(is_split(poly, told), False)


class TestNeverBelow(StretchCase):

    def test_from_0_on(self):
        for poly in KEPT:
            for factor in (1, (3, 10 ** 70), 10 ** 70):
                self.assert_split(poly * factor, never_below(poly * factor))

    def test_below_0_somewhere(self):
        for poly in BROKEN:
            for factor in (1, (3, 10 ** 70), 10 ** 70):
                self.assert_below(poly * factor, never_below(poly * factor))

    def test_mixed_products(self):
        numbers = ref.stream(21)
        parts = (T, 1 - T, HALF, line(1, 3), line(2, 7), ROOT_2, ROOT_3, GOLDEN, NEVER, line(3, 2), power(HALF, 2) + TINY)
        kept = 0
        for _ in range(400):
            poly = Poly(((next(numbers) % 5 - 1, 1 + next(numbers) % 4),))
            for _ in range(next(numbers) % 4):
                poly = poly * power(parts[next(numbers) % len(parts)], 1 + next(numbers) % 3)
            told = never_below(poly)
            if isinstance(told, Split):
                kept += 1
                self.assert_split(poly, told)
                self.assertTrue(all(value(poly, Fraction(k, 60)) >= 0 for k in range(61)))
            else:
                self.assert_below(poly, told)
        self.assertTrue(100 < kept < 300)

    def test_mixed_numbers(self):
        numbers = ref.stream(22)
        for k in range(150):
            row = [ref.mixed_ratio(numbers, 10 ** (k % 40)) for _ in range(1 + k % 13)]
            for poly in (Poly(row), power(Poly(row[:7]), 2) + (next(numbers) % 3 - 1, 10 ** 20)):
                told = never_below(poly)
                (self.assert_split if isinstance(told, Split) else self.assert_below)(poly, told)

    def test_long_numbers(self):
        steep = Poly([0] * 12 + [1]) + 2 * power(Poly((-1, 10 ** 59)), 2)
        self.assert_split(steep, never_below(steep))
        deep = Poly([0] * 12 + [1]) - 2 * power(Poly((-1, 10 ** 59)), 2)
        self.assert_below(deep, never_below(deep))
        near = power(line(10 ** 19 + 1, 3 * 10 ** 19), 6) + (1, 10 ** 119)
        self.assert_split(near, never_below(near))


class TestIsSplit(StretchCase):

    def test_splits_in_other_forms(self):
        poly = power(HALF, 2) * (T + 1)
        for root, rest, cuts in (
            (HALF, T + 1, ()), (-HALF, T + 1, ()), (2 * HALF, (T + 1) * (1, 4), ()), (HALF, T + 1, ((1, 3),)),
            (HALF, T + 1, ((1, 5), (2, 8), (12, 24), (9, 10))), (HALF, T + 1, [(1, 5), (1, 2)]), (Poly((1,)), poly, ((1, 2),)),
        ):
            self.assertIs(is_split(poly, Split(root, rest, cuts)), True, (root.numbers, rest.numbers, cuts))
        self.assertIs(is_split(Poly(()), Split(Poly(()), Poly((1, 1)), ())), True)
        self.assertIs(is_split(Poly(()), Split(Poly((1, -7)), Poly(()), ((1, 2),))), True)
        for root, rest in ((Poly(()), Poly((1,))), (Poly(()), T * T), (Poly(()), Poly(())), (Poly((1,)), Poly(())), (T * T, Poly(()))):
            self.assertIs(is_split(Poly(()), Split(root, rest, ())), True)
        self.assertIs(is_split(Poly(()), Split(Poly(()), -T, ())), False)
        self.assertIs(is_split(Poly((1,)), Split(Poly(()), Poly((1,)), ())), False)
        self.assertIs(is_split(Poly(()), Split(Poly((1,)), Poly((1,)), ())), False)

    def test_one_thing_changed(self):
        poly = power(HALF, 2) * (T + 1)
        near = power(HALF, 2) + (1, 100)
        self.assertIs(is_split(near, Split(Poly((1,)), near, ((9, 20), (11, 20)))), True)
        for other, told in (
            (poly, Split(HALF, T + 2, ())), (poly, Split(line(1, 3), T + 1, ())), (poly + 1, Split(HALF, T + 1, ())),
            (poly * 2, Split(HALF, T + 1, ())), (poly, Split(Poly((1,)), poly, ())), (-poly, Split(HALF, -(T + 1), ())),
            (poly, Split(HALF, T + 1, (0,))), (poly, Split(HALF, T + 1, (1,))), (poly, Split(HALF, T + 1, ((1, 2), (1, 3)))),
            (poly, Split(HALF, T + 1, ((1, 2), (2, 4)))), (poly, Split(HALF, T + 1, ((-1, 2),))), (poly, Split(HALF, T + 1, ((3, 2),))),
            (near, Split(Poly((1,)), near, ())), (near, Split(Poly((1,)), near, ((9, 20),))),
            (near, Split(Poly((1,)), near, ((1, 3), (2, 3)))), (near, Split(Poly((1,)), near, ((11, 20),))),
            (near, Split(Poly((1,)), near, ((11, 20), (9, 20)))), (HALF, Split(Poly((1,)), HALF, ())),
        ):
            self.assertIs(is_split(other, told), False)

    def test_odd_values_in_a_split(self):
        poly = power(HALF, 2) * (T + 1)
        self.assertIs(is_split(poly, Split(HALF, T + 1, ((1, 3),))), True)
        odd_values = ref.ODD + (3, (1, 2), [1, 2], ((1, 1), (2, 1)), Below(1, 2), Split(HALF, T, ()))
        for odd in odd_values:
            self.assertIs(is_split(poly, Split(odd, T + 1, ())), False)
            self.assertIs(is_split(poly, Split(HALF, odd, ())), False)
            self.assertIs(is_split(poly, odd), False)
            if odd not in ((), (1, 2), ((1, 2),)):
                self.assertIs(is_split(poly, Split(HALF, T + 1, odd)), False)
                self.assertIs(is_split(poly, Split(HALF, T + 1, (odd,))), False)
                self.assertIs(is_split(poly, Split(HALF, T + 1, ((1, 10), odd, (9, 10)))), False)
        # Lists do not stand for tuples in what is judged, but an object keeps its own lists as tuples.
        self.assertIs(is_split(poly, Split(HALF, T + 1, ([1, 2],))), False)
        self.assertIs(is_split(poly, Split(HALF, T + 1, [(1, 2)])), True)
        self.assertIs(is_split(poly, (HALF, T + 1, ())), False)
        self.assertIs(is_split(poly, Below((1, 2), (-1, 2))), False)

    def test_all_splits_change_with_their_polynomial(self):
        for poly in KEPT:
            told = never_below(poly)
            for other in KEPT + BROKEN:
                self.assertIs(is_split(other, told), other == poly)

    def test_objects_keep_what_they_are_given(self):
        row = [1, [2]]
        told = Split(row, "rest", None)
        row.append(3)
        self.assertEqual((told.root, told.rest, told.cuts), ((1, [2]), "rest", None))
        found = Below([1, 2], row)
        self.assertEqual((found.at, found.number), ((1, 2), (1, [2], 3)))
        self.assertFalse(Split(T, T, ()) == Split(T, T, ()))
        self.assertFalse(Below(1, 2) == Below(1, 2))
        self.assertTrue(told == told)


class TestZeros(StretchCase):

    # Polynomials with their zeros from 0 to 1: each told as a Fraction, or as a Poly that is 0 at just one of them there.
    KNOWN = (
        (Poly((5,)), ()), (NEVER, ()), (T, ((Fraction(0), 1),)), (T - 1, ((Fraction(1), 1),)), (line(3, 2), ()), (T + TINY, ()),
        (power(T, 3) * power(T - 1, 2), ((Fraction(0), 3), (Fraction(1), 2))), (power(HALF, 5), ((Fraction(1, 2), 5),)),
        (line(1, 3) * power(line(2, 3), 2) * 7, ((Fraction(1, 3), 1), (Fraction(2, 3), 2))), (ROOT_2, ((ROOT_2, 1),)),
        (power(ROOT_2, 3) * power(ROOT_3, 2) * power(HALF, 4), ((Fraction(1, 2), 4), (ROOT_3, 2), (ROOT_2, 3))),
        (T * GOLDEN * (T - 1) * NEVER, ((Fraction(0), 1), (GOLDEN, 1), (Fraction(1), 1))),
        (line(10 ** 30, 10 ** 30 + 1) * line(1, 10 ** 40), ((Fraction(1, 10 ** 40), 1), (Fraction(10 ** 30, 10 ** 30 + 1), 1))),
        (HALF * line(10 ** 12 + 1, 2 * 10 ** 12), ((Fraction(1, 2), 1), (Fraction(10 ** 12 + 1, 2 * 10 ** 12), 1))),
        (line(5, 7) * (5 * T * T * 10 ** 10 - 1) * power(line(5, 8), 2),
         ((5 * T * T * 10 ** 10 - 1, 1), (Fraction(5, 8), 2), (Fraction(5, 7), 1))),
        # Ratios that a straight line between two ends just misses, and what lies just below a ratio.
        (Poly((-9, 0, 64)), ((Fraction(3, 8), 1),)), (Poly((9, 0, -64)) * T, ((Fraction(0), 1), (Fraction(3, 8), 1))),
        (Poly((-25, 0, 0, 0, 256)), ((Poly((-5, 0, 16)), 1),)), (Poly((-27, 0, 0, 512)), ((Fraction(3, 8), 1),)),
        (Poly((-1, 2)) * Poly((-10, 20, 1)), ((Poly((-10, 20, 1)), 1), (Fraction(1, 2), 1))),
        (Poly((0, -1, 0, 2)), ((Fraction(0), 1), (ROOT_2, 1))), ((ROOT_2 * HALF) * (1, 9), ((Fraction(1, 2), 1), (ROOT_2, 1))),
    )

    def cell(self, poly, bits):
        """The integer k such that poly changes its sign between k / 2 ** bits and the next one, in whole from 0 to 1."""
        low, high = 0, 2 ** bits
        self.assertEqual(sign(value(poly, Fraction(0))), -sign(value(poly, Fraction(1))))
        while high - low > 1:
            middle = (low + high) // 2
            if sign(value(poly, Fraction(middle, 2 ** bits))) == sign(value(poly, Fraction(0))):
                low = middle
            else:
                high = middle
        return low

    def test_known_zeros(self):
        for poly, known in self.KNOWN:
            for bits in (0, 1, 2, 3, 7, 20, 59, 60):
                expected = []
                for zero, often in known:
                    if isinstance(zero, Fraction):
                        expected.append((ref.pair(zero), ref.pair(zero), often))
                    else:
                        k = self.cell(zero, bits)
                        expected.append((ref.pair(Fraction(k, 2 ** bits)), ref.pair(Fraction(k + 1, 2 ** bits)), often))
                found = zeros(poly, bits)
                self.assertEqual(found, tuple(expected))
                self.assertEqual([type(row) for row in found], [tuple] * len(found))
                for row in found:
                    self.assert_pair(row[0])
                    self.assert_pair(row[1])
                    self.assertIs(type(row[2]), int)
            self.assertEqual(count_zeros(poly), len(known))
            self.assertIs(type(count_zeros(poly)), int)

    def test_two_zeros_in_one_cell(self):
        # The second one is no ratio and lies just above 1/2.
        near = 4 * T * T - 1 - (1, 10 ** 20)
        for bits in (0, 1, 5, 30):
            low, high = (Fraction(2 ** bits // 2, 2 ** bits), Fraction(2 ** bits // 2 + 1, 2 ** bits))
            self.assertEqual(zeros(near * HALF, bits), (
                ((1, 2), (1, 2), 1), (ref.pair(low), ref.pair(high), 1)))
            self.assertEqual(zeros(near * near * HALF, bits), (
                ((1, 2), (1, 2), 1), (ref.pair(low), ref.pair(high), 2)))

    def test_order_where_cells_are_shared(self):
        # Square roots of 1/2 and of 1/2 + 1/1000, once and twice.
        other = 2 * T * T - 1 - (1, 500)
        for bits in (0, 3, 7, 8, 12):
            found = zeros(power(ROOT_2, 2) * other, bits)
            self.assertEqual([row[2] for row in found], [2, 1])
            found = zeros(ROOT_2 * power(other, 2), bits)
            self.assertEqual([row[2] for row in found], [1, 2])

    def test_many_zeros(self):
        poly = Poly((1,))
        for k in range(1, 13):
            poly = poly * line(k, 13)
        self.assertEqual(zeros(poly, 3), tuple(((k, 13), (k, 13), 1) for k in range(1, 13)))
        self.assertEqual(between(poly), (1, -1) * 6 + (1,))
        moved = poly + (1, 10 ** 30)
        found = zeros(moved, 40)
        self.assertEqual(len(found), 12)
        for (one, other, often), k in zip(found, range(1, 13)):
            low, high = Fraction(*one), Fraction(*other)
            self.assertEqual((high - low, often), (Fraction(1, 2 ** 40), 1))
            self.assertEqual(sign(value(moved, low)), -sign(value(moved, high)))
            self.assertLess(abs(low - Fraction(k, 13)), Fraction(1, 10 ** 6))

    def test_long_numbers(self):
        steep = Poly([0] * 12 + [1]) - 2 * power(Poly((-1, 10 ** 59)), 2)
        self.assertEqual(count_zeros(steep), 2)
        self.assertEqual(zeros(steep, 60), (((0, 1), (1, 2 ** 60), 1), ((0, 1), (1, 2 ** 60), 1)))
        self.assertEqual(between(steep), (-1, 1, -1))
        numbers, poly, known = ref.stream(23), Poly((1,)), []
        for _ in range(12):
            bottom = 10 ** 100 + next(numbers)
            top = next(numbers) * 10 ** 90
            poly = poly * Poly((-top, bottom))
            known.append(Fraction(top, bottom))
        self.assertEqual(zeros(poly, 5), tuple((ref.pair(zero), ref.pair(zero), 1) for zero in sorted(known)))

    def test_mixed_products(self):
        numbers = ref.stream(24)
        table = (
            (T, Fraction(0)), (T - 1, Fraction(1)), (HALF, Fraction(1, 2)), (line(1, 3), Fraction(1, 3)),
            (line(5, 7), Fraction(5, 7)), (ROOT_2, ROOT_2), (ROOT_3, ROOT_3), (GOLDEN, GOLDEN),
        )
        for _ in range(200):
            poly, often = Poly((next(numbers) % 7 + 1,)) * NEVER, {}
            for _ in range(next(numbers) % 6):
                k = next(numbers) % len(table)
                poly, often[k] = poly * table[k][0], often.get(k, 0) + 1
            rows = []
            for k, many in often.items():
                zero = table[k][1]
                if isinstance(zero, Fraction):
                    rows.append((zero, zero, many))
                else:
                    cell = self.cell(zero, 20)
                    rows.append((Fraction(cell, 2 ** 20), Fraction(cell + 1, 2 ** 20), many))
            rows.sort()
            self.assertEqual(zeros(poly, 20), tuple((ref.pair(one), ref.pair(other), many) for one, other, many in rows))
            self.assertEqual(count_zeros(poly), len(rows))
            self.assert_between(poly, rows)

    def assert_between(self, poly, rows):
        """The signs in the middle of the stretches between cells that do not touch."""
        inner = [row for row in rows if not row[0] == row[1] in (0, 1)]
        ends = [(Fraction(0), Fraction(0)), *[row[:2] for row in inner], (Fraction(1), Fraction(1))]
        expected = tuple(sign(value(poly, (low[1] + high[0]) / 2)) for low, high in zip(ends, ends[1:]))
        self.assertEqual(between(poly), expected)

    def test_between(self):
        for poly, signs in (
            (Poly((5,)), (1,)), (Poly((-5,)), (-1,)), (T, (1,)), (-T, (-1,)), (T - 1, (-1,)), (power(T - 1, 2), (1,)),
            (HALF, (-1, 1)), (-HALF, (1, -1)), (power(HALF, 2), (1, 1)), (-power(HALF, 2), (-1, -1)), (power(HALF, 3), (-1, 1)),
            (T * HALF * (T - 1), (1, -1)), (ROOT_2 * power(ROOT_3, 2), (-1, -1, 1)), (NEVER, (1,)), (line(3, 2), (-1,)),
            (ROOT_2 * ROOT_3 * HALF, (-1, 1, -1, 1)), (power(T, 5) * power(GOLDEN, 2) * power(T - 1, 3), (-1, -1)),
        ):
            self.assertEqual(between(poly), signs)
            self.assertIs(type(between(poly)), tuple)
            self.assertEqual(between(-poly), tuple(-one for one in signs))

    def test_no_numbers(self):
        for poly in (Poly(()), Poly((0, 0))):
            self.assert_bad("degree", -1, lambda: count_zeros(poly))
            self.assert_bad("degree", -1, lambda: between(poly))
            for bits in (0, 5, 61, None):
                self.assert_bad("degree", -1, lambda: zeros(poly, bits))

    def test_bad_bits(self):
        for bits in (-1, 61, True, False, None, "3", 2.0, (1, 1), (3,), [], Fraction(3), 10 ** 100):
            for poly in (Poly((1,)), HALF, ROOT_2):
                self.assert_bad("bits", bits, lambda: zeros(poly, bits))
        self.assertEqual(zeros(ROOT_2, 0), (((0, 1), (1, 1), 1),))

    def test_counted_by_division(self):
        for poly in KEPT + BROKEN:
            if poly.degree() >= 0:
                for one, other, often in zeros(poly, 10):
                    if one == other:
                        rest = poly
                        for _ in range(often):
                            rest, left = divided(rest, Poly((ref.pair(-Fraction(*one)), 1)))
                            self.assertEqual(left.degree(), -1)
                        self.assertNotEqual(value(rest, Fraction(*one)), 0)


if __name__ == "__main__":
    unittest.main()
