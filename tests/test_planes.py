"""Points [6] and [8]: polynomials of two letters."""

import unittest
from fractions import Fraction
from unittest import mock

import reference as ref
from flowpapers.errors import BadRow
from flowpapers.planes import Plane
from flowpapers.polys import Poly

BIG = 10 ** 3000 + 7

ROWS = (
    (), ((),), ((), (), ()), ((0,),), ((0, (0, 3)), [], (0,)), ((1,),), (((-2, 6),),), ([], [1]), ((0, 1),), [[0, 1], [1]],
    ((1, 2, 3), (), (4, 0, 5, 0)), [[(2, 4), [3, 9]], [0, 0, (5, 1), 0], [], [0, -1], [0], []],
    ((0, 0, 0, 1), (), (), (7,)), ((BIG, 0), (0, (-1, BIG))), ([], [], [0, 0, [6, -0 + 4]]), ((1, -1), (1, -1)),
)

NO_ROWS = (
    None, True, 0, 7, "", "12", b"12", 1.5, {}, {(1,): 2}, {1, 2}, range(3), object(), Plane, Plane(((1,),)), (1,), [1, 2],
    ((1, 2), 3), (None,), ("12",), ["", "ab"], ((1,), "2"), ((True,),), ((1, False),), (((1, 0),),), (((1, -2),), (1,)),
    ((1,), (2,), (3, (4, 0))), (((1, 2, 3),),), ([[[1]]],), ((1.0,),), (((1.0, 2),),), (((1, True),),), ((Plane(()),),),
    ({},), ({1: 2},), (range(2),), iter([[1]]), ((1, (2, 3), None),), (((),),), ((Fraction(1, 2),),), [[Poly((1,))]],
)

NO_PLACES = (
    None, True, 0, 5, "", "12", b"12", 1.5, {}, {1: 2, 3: 4}, {1, 2}, object(), (), (1,), (1, 2, 3), (1, None), (True, 1), (1, False),
    ((1, 0), 1), (1, (1, 0)), (1, (1, -1)), ("1", "2"), ((1, 2, 3), 4), (1, [2]), [1.0, 2], ((1, 2), (3, 4), (5, 6)),
    (1, Fraction(1, 2)), (1, ()), Plane(((1,),)),
)

NO_MATRICES = (
    None, True, 3, "1234", {}, {1: 1, 2: 2, 3: 3, 4: 4}, (), (1, 2, 3), (1, 2, 3, 4, 5), (1, 2, 3, None), (True, 2, 3, 4),
    (1, 2, (3, 0), 4), (1, (2, -3), 3, 4), ((1, 2), (3, 4)), ((1, 2, 3, 4),), (1, 2, 3, "4"), [1.0, 2, 3, 4], object(),
)

POINTS = ((0, 0), (1, 1), (-1, 2), [3, [1, 2]], ((2, 4), (-6, 9)), [[0, 5], -7], ((1, 10 ** 50), BIG))


def turned(row):
    return [(-ref.fraction(number).numerator, ref.fraction(number).denominator) for number in row]


class PlaneCase(unittest.TestCase):

    def assert_plane(self, plane, numbers):
        self.assertIs(type(plane), Plane)
        self.assertIs(type(plane.rows), tuple)
        for row in plane.rows:
            self.assertIs(type(row), tuple)
            for number in row:
                self.assert_pair(number)
        self.assertEqual(plane.rows, ref.rows_of(numbers))

    def assert_pair(self, number):
        self.assertIs(type(number), tuple)
        self.assertEqual([type(part) for part in number], [int, int])

    def assert_bad_row(self, value, call):
        with self.assertRaises(BadRow) as seen:
            call()
        self.assertIs(seen.exception.row, value)


class TestRows(PlaneCase):

    def test_rows_in_lowest_terms_without_zeros_at_their_ends(self):
        for rows in ROWS:
            self.assert_plane(Plane(rows), ref.table(rows))
            self.assert_plane(Plane(list(rows)), ref.table(rows))
            self.assert_plane(Plane(tuple(tuple(row) for row in rows)), ref.table(rows))
        self.assertEqual(Plane([[(2, 4), 0, [3, 9], 0], [], [(0, 5)], [0, -1, 0], [], [0]]).rows,
                         (((1, 2), (0, 1), (1, 3)), (), (), ((0, 1), (-1, 1))))

    def test_no_numbers(self):
        for rows in ((), [], ((),), [[], []], ((0,),), ((), (0, 0), ((0, 9),))):
            self.assertEqual(Plane(rows).rows, ())
            self.assertEqual(Plane(rows).degree(), -1)

    def test_an_inner_pair_is_a_row_of_two_numbers(self):
        self.assertEqual(Plane(((1, 2),)).rows, (((1, 1), (2, 1)),))
        self.assertEqual(Plane((((1, 2),),)).rows, (((1, 2),),))

    def test_mixed_rows_of_unlike_lengths(self):
        numbers = ref.stream(1)
        for _ in range(300):
            rows = []
            for _ in range(next(numbers) % 6):
                row = [ref.mixed_ratio(numbers, 3) for _ in range(next(numbers) % 5)]
                rows.append(tuple(row) if next(numbers) % 2 else [list(number) for number in row])
            self.assert_plane(Plane(rows), ref.table(rows))

    def test_bad_rows(self):
        for rows in NO_ROWS:
            self.assert_bad_row(rows, lambda: Plane(rows))

    def test_one_odd_item_anywhere(self):
        for i in range(3):
            for j in range(3):
                for odd in ref.ODD:
                    rows = [[1, 2, 3], [4, (5, 6), 7], ([8, 9], 10, 11)]
                    rows[i] = list(rows[i])
                    rows[i][j] = odd
                    self.assert_bad_row(rows, lambda: Plane(rows))
            for odd in (None, 3, "", "12", {}, True, 1.5, range(2)):
                rows = [[1], [2], [3]]
                rows[i] = odd
                self.assert_bad_row(rows, lambda: Plane(rows))

    def test_later_changes_do_not_reach_it(self):
        inner, row = [1, 2], [3]
        rows = [[inner, 4], row]
        plane = Plane(rows)
        inner[0] = 9
        row.append(5)
        rows[0][1] = 6
        rows.append([7])
        self.assertEqual(plane.rows, (((1, 2), (4, 1)), ((3, 1),)))

    def test_the_rows_themselves_stay(self):
        rows = [[[2, 4], 0], [], [0]]
        Plane(rows)
        self.assertEqual(rows, [[[2, 4], 0], [], [0]])

    def test_degree(self):
        for rows in ROWS:
            self.assertEqual(Plane(rows).degree(), max((i + j for i, j in ref.table(rows)), default=-1))
        self.assertEqual(Plane(((0, 0, 5), (0, 3), (1, 0, 0, 0))).degree(), 2)
        self.assertEqual(Plane(((5,),)).degree(), 0)
        self.assertEqual(Plane(((0, 0, 1), (), (1,), (0, 0, 1))).degree(), 5)


class TestEqual(PlaneCase):

    def test_equal_numbers(self):
        for one in ROWS:
            for other in ROWS:
                self.assertIs(Plane(one) == Plane(other), ref.table(one) == ref.table(other))
                self.assertIs(Plane(one) != Plane(other), ref.table(one) != ref.table(other))
        self.assertTrue(Plane([[(2, 4), 0], []]) == Plane((([1, 2],),)))
        self.assertFalse(Plane(((0, 1),)) == Plane(((), (1,))))

    def test_other_classes(self):
        for plane in (Plane(()), Plane(((1,),)), Plane(((1, 2),))):
            for other in (0, 1, (), ((1,),), plane.rows, Poly((1, 2)), Poly(()), Poly((1,)), None, "1", object(), mock.ANY):
                self.assertIs(plane == other, False)
                self.assertIs(plane != other, True)
        for other in (0, (), Poly(()), Poly((1,)), ((1,),)):
            self.assertIs(other == Plane(()), False)


class TestSigns(PlaneCase):

    def test_of_two_planes(self):
        for one in ROWS:
            for other in ROWS:
                left, right, a, b = Plane(one), Plane(other), ref.table(one), ref.table(other)
                self.assert_plane(left + right, ref.added(a, b))
                self.assert_plane(left - right, ref.added(a, b, -1))
                self.assert_plane(left * right, ref.multiplied(a, b))
                self.assertEqual((left.rows, right.rows), (ref.rows_of(a), ref.rows_of(b)))

    def test_a_ratio_on_both_sides(self):
        for rows in ROWS:
            for number in (0, 1, -4, (0, 3), (1, 2), (-6, 4), BIG, (3, BIG)):
                plane, a, b = Plane(rows), ref.table(rows), ref.table([[number]])
                self.assert_plane(plane + number, ref.added(a, b))
                self.assert_plane(number + plane, ref.added(a, b))
                self.assert_plane(plane - number, ref.added(a, b, -1))
                self.assert_plane(number - plane, ref.added(b, a, -1))
                self.assert_plane(plane * number, ref.multiplied(a, b))
                self.assert_plane(number * plane, ref.multiplied(a, b))

    def test_turned(self):
        for rows in ROWS:
            self.assert_plane(-Plane(rows), ref.scaled(ref.table(rows), -1))

    def test_sums_may_lose_rows(self):
        self.assertEqual((Plane(((1, 2), (3,))) - Plane(((0, 2), (3,)))).rows, (((1, 1),),))
        self.assertEqual((Plane(((1,), (), (2,))) + Plane(((-1,), (), (-2,)))).rows, ())
        self.assertEqual((0 * Plane(((1,), (2,)))).rows, ())

    def test_mixed_planes(self):
        numbers = ref.stream(2)
        for k in range(60):
            one = ref.mixed_rows(numbers, k % 7, 5)
            other = ref.mixed_rows(numbers, next(numbers) % 7, 10 ** 12)
            a, b = ref.table(one), ref.table(other)
            self.assert_plane(Plane(one) * Plane(other), ref.multiplied(a, b))
            self.assert_plane(Plane(one) + Plane(other), ref.added(a, b))
            self.assert_plane(Plane(one) - Plane(other), ref.added(a, b, -1))

    def test_in_place_signs_make_new_ones(self):
        plane = same = Plane(((1, 2),))
        plane += 1
        plane *= 2
        plane -= Plane(((0, 1), (1,)))
        self.assert_plane(plane, ref.table(((4, 3), (-1,))))
        self.assert_plane(same, ref.table(((1, 2),)))

    def test_what_is_no_ratio_beside_a_sign(self):
        plane = Plane(((1, 2),))
        for other in (True, None, "1", 1.5, (1, 0), (1,), (1, 2, 3), [1, 2], (True, 1), object(), Fraction(1, 2), Poly((1,)),
                      ((1, 2),), ()):
            for sign in (lambda a, b: a + b, lambda a, b: a - b, lambda a, b: a * b):
                with self.assertRaises(TypeError):
                    sign(plane, other)
                with self.assertRaises(TypeError):
                    sign(other, plane)


class TestValues(PlaneCase):

    def test_at(self):
        for rows in ROWS:
            for point in POINTS:
                found = Plane(rows).at(point)
                self.assert_pair(found)
                x, y = (ref.fraction(number) for number in point)
                self.assertEqual(found, ref.pair(ref.value(ref.table(rows), x, y)))

    def test_bad_points(self):
        for rows in ((), ((1,),), ((1, 2), (3,))):
            for point in NO_PLACES:
                self.assert_bad_row(point, lambda: Plane(rows).at(point))

    def test_slopes(self):
        for rows in ROWS:
            self.assert_plane(Plane(rows).slope_x(), ref.slope_x(ref.table(rows)))
            self.assert_plane(Plane(rows).slope_y(), ref.slope_y(ref.table(rows)))
        plane = Plane(((1, 2, (1, 2)), (), ((1, 2), 0, 7)))
        self.assertEqual(plane.slope_x().rows, ((), ((1, 1), (0, 1), (14, 1))))
        self.assertEqual(plane.slope_y().rows, (((2, 1), (1, 1)), (), ((0, 1), (14, 1))))


class TestAlong(PlaneCase):

    def check(self, rows, start, step):
        poly = Plane(rows).along(start, step)
        self.assertIs(type(poly), Poly)
        (a, b), (c, d) = ref.places((start, step))
        expected = ref.put_in(ref.table(rows), {(0, 0): a, (1, 0): c}, {(0, 0): b, (1, 0): d})
        self.assertEqual(poly.numbers, tuple(row[0] if row else (0, 1) for row in ref.rows_of(expected)))

    def test_lines_of_all_kinds(self):
        lines = (
            ((0, 0), (1, 0)), ((0, 0), (0, 1)), ((3, [1, 2]), (0, (-2, 6))), [[1, 2], [3, 4]], (((-1, 2), 5), [(4, 6), -3]),
            ((7, -7), (0, 0)), ([[1, 3], 0], ((0, 5), 0)), ((BIG, 1), ((1, BIG), 1)),
        )
        for rows in ROWS:
            for start, step in lines:
                self.check(rows, start, step)

    def test_mixed(self):
        numbers = ref.stream(3)
        for k in range(60):
            rows = ref.mixed_rows(numbers, k % 7, 9)
            start, step = [[ref.mixed_ratio(numbers, 20) for _ in range(2)] for _ in range(2)]
            self.check(rows, start, step)
            at = ref.mixed_ratio(numbers, 9)
            there = [ref.pair(ref.fraction(a) + ref.fraction(at) * ref.fraction(b)) for a, b in zip(start, step)]
            self.assertEqual(Plane(rows).along(start, step).at(at), Plane(rows).at(there))

    def test_bad_points(self):
        plane = Plane(((1, 2), (3,)))
        for odd in NO_PLACES:
            self.assert_bad_row(odd, lambda: plane.along(odd, (1, 1)))
            self.assert_bad_row(odd, lambda: plane.along((1, 1), odd))
            self.assert_bad_row(odd, lambda: plane.along(odd, "no"))


class TestMoved(PlaneCase):

    def check(self, rows, matrix, shift):
        (a, b, c, d), (e, f) = ref.places((matrix, shift))
        over, up = ({(1, 0): one, (0, 1): other, (0, 0): more} for one, other, more in ((a, b, e), (c, d, f)))
        expected = ref.put_in(ref.table(rows), over, up)
        self.assert_plane(Plane(rows).moved(matrix, shift), expected)

    def test_all_rows(self):
        moves = (
            ((1, 0, 0, 1), (0, 0)), ((0, 1, 1, 0), (0, 0)), ((1, 0, 0, 1), ((1, 2), -3)), ([1, 2, [3, 4], -5], [0, [7, 2]]),
            ((0, 0, 0, 0), (2, 3)), ((1, 2, 2, 4), (0, 1)), (((2, 4), 0, 0, (0, 9)), (0, 0)),
        )
        for rows in ROWS:
            for matrix, shift in moves:
                self.check(rows, matrix, shift)

    def test_mixed(self):
        numbers = ref.stream(4)
        for k in range(40):
            rows = ref.mixed_rows(numbers, k % 6, 9)
            matrix, shift = [[ref.mixed_ratio(numbers, 9) for _ in range(many)] for many in (4, 2)]
            self.check(rows, matrix, shift)

    def test_forth_and_back(self):
        plane = Plane(((1, 2, 3), ((4, 5), 6), (7,)))
        there = plane.moved((2, 1, 5, 3), (4, (1, 2)))
        # The inverse of (2, 1, 5, 3) is (3, -1, -5, 2).
        self.assertTrue(there.moved((3, -1, -5, 2), ((-23, 2), 19)) == plane)

    def test_bad_rows(self):
        plane = Plane(((1, 2), (3,)))
        for odd in NO_MATRICES:
            self.assert_bad_row(odd, lambda: plane.moved(odd, (0, 0)))
            self.assert_bad_row(odd, lambda: plane.moved(odd, "no"))
        for odd in NO_PLACES:
            self.assert_bad_row(odd, lambda: plane.moved((1, 0, 0, 1), odd))
        for k in range(4):
            for odd in ref.ODD:
                matrix = [1, 2, 3, 4]
                matrix[k] = odd
                self.assert_bad_row(matrix, lambda: Plane(()).moved(matrix, (0, 0)))


class TestSizes(PlaneCase):

    def test_powers_to_twelve_with_long_numbers(self):
        numbers = ref.stream(5)
        rows = [[ref.mixed_ratio(numbers, 10 ** 59) for _ in range(13)] for _ in range(13)]
        plane, small = Plane(rows), Plane([[i - j for j in range(13)] for i in range(13)])
        point = (ref.mixed_ratio(numbers, 10 ** 59), (-3, 7))
        x, y = (ref.fraction(number) for number in point)
        self.assertEqual(plane.at(point), ref.pair(ref.value(ref.table(rows), x, y)))
        product = plane * small
        self.assertEqual(product.degree(), 47)
        self.assertEqual(ref.fraction(product.at((2, (1, 3)))),
                         ref.fraction(plane.at((2, (1, 3)))) * ref.fraction(small.at((2, (1, 3)))))
        moved = small.moved(((1, 3), 2, -1, (5, 7)), (point[0], 1))
        there = (ref.pair(Fraction(7, 3) + x), ref.pair(Fraction(5, 7)))
        self.assertEqual(moved.at((1, 1)), small.at(there))
        self.assertEqual(moved.degree(), 23)

    def test_numbers_of_any_size(self):
        plane = Plane(((BIG, (1, BIG)), (1,)))
        self.assert_plane(plane * plane, ref.multiplied(*[ref.table(plane.rows)] * 2))
        self.assertEqual(plane.at((BIG, BIG * BIG)), (3 * BIG, 1))


if __name__ == "__main__":
    unittest.main()
