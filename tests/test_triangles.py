"""Points [11], [12] and [14]: corners on triangles, halves, the triangles of rooms."""

import unittest
from fractions import Fraction

import reference as ref
from flowpapers.errors import BadNumber, BadRow
from flowpapers.planes import Plane
from flowpapers.rooms import Room
from flowpapers.triangles import corners, halved, triangles

LEFT = ((0, 0), (1, 0), (0, 1))
RIGHT = ((0, 0), (0, 1), (1, 0))
TRIANGLES = (
    LEFT, RIGHT, ((1, 2), (5, -3), (4, 7)), [[1, [1, 2]], [(-3, 6), 5], [(2, 3), (7, 4)]], ((10 ** 40, 0), (0, (1, 10 ** 40)), (-1, -1)),
    (((1, 3), (1, 3)), ((2, 6), 9), (4, (3, 9))),
)

NO_TRIANGLES = (
    None, True, 0, "abc", b"abc", {}, {0: (0, 0), 1: (1, 0), 2: (0, 1)}, object(), (), ((0, 0), (1, 0)), LEFT + ((1, 1),), (1, 2, 3),
    ((0, 0), (1, 0), (2, 0)), ((0, 0), (0, 0), (1, 1)), ((1, 1), (0, 0), (1, 1)), ((1, 1), (1, 1), (1, 1)), ((0, 0), (1, 1), (2, 2)),
    ((0, 0), (1, 3), ((1, 3), 1)), ((0, 0), (1, 2), ((2, 4), (3, 3))), ((0, 0), (1, 0), None), ((0, 0), (1, 0), (0, 1, 2)), Plane(()),
    ((0, 0), (1, 0), (0, True)), ((0, 0), ((1, 0), 0), (0, 1)), ((0, 0), "10", (0, 1)), [(0, 0), (1, 0), (0, 1.0)], ((0, 0), (1, 0), 1),
)


class TriangleCase(unittest.TestCase):

    def assert_pair(self, number):
        self.assertIs(type(number), tuple)
        self.assertEqual([type(part) for part in number], [int, int])
        self.assertEqual(number, ref.pair(Fraction(*number)))

    def assert_triangle(self, triangle):
        self.assertIs(type(triangle), tuple)
        self.assertEqual(len(triangle), 3)
        for place in triangle:
            self.assertIs(type(place), tuple)
            self.assertEqual(len(place), 2)
            for number in place:
                self.assert_pair(number)

    def assert_bad_row(self, value, call):
        with self.assertRaises(BadRow) as seen:
            call()
        self.assertIs(seen.exception.row, value)

    def assert_bad_number(self, what, number, call):
        with self.assertRaises(BadNumber) as seen:
            call()
        self.assertEqual(seen.exception.what, what)
        self.assertIs(seen.exception.number, number)


class TestCorners(TriangleCase):

    def check(self, rows, triangle, *degree):
        found = corners(Plane(rows), triangle, *degree)
        self.assertIs(type(found), tuple)
        for number in found:
            self.assert_pair(number)
        many = degree[0] if degree and degree[0] is not None else max(Plane(rows).degree(), 0)
        expected = ref.triangle_corners(ref.table(rows), ref.places(triangle), many)
        self.assertEqual(found, tuple(ref.pair(number) for number in expected))

    def test_known_corners(self):
        x = Plane(((), (1,)))
        self.assertEqual(corners(x, LEFT), ((0, 1), (1, 1), (0, 1)))
        self.assertEqual(corners(x, RIGHT), ((0, 1), (0, 1), (1, 1)))
        self.assertEqual(corners(x * x, LEFT), ((0, 1), (0, 1), (0, 1), (1, 1), (0, 1), (0, 1)))
        self.assertEqual(corners(x, LEFT, 2), ((0, 1), (1, 2), (0, 1), (1, 1), (1, 2), (0, 1)))
        self.assertEqual(corners(Plane(((0, 1),)), LEFT, 2), ((0, 1), (0, 1), (1, 2), (0, 1), (1, 2), (1, 1)))
        self.assertEqual(corners(Plane(()), LEFT), ((0, 1),))
        self.assertEqual(corners(Plane(((7,),)), RIGHT), ((7, 1),))
        self.assertEqual(corners(Plane(()), LEFT, 1), ((0, 1),) * 3)
        self.assertEqual(corners(Plane((((1, 2),),)), LEFT, 3), ((1, 2),) * 10)

    def test_each_degree_on_each_triangle(self):
        numbers = ref.stream(31)
        for degree in range(7):
            for triangle in TRIANGLES:
                rows = ref.mixed_rows(numbers, degree, 9)
                self.check(rows, triangle)
                self.check(rows, triangle, None)

    def test_degrees_above_its_own(self):
        numbers = ref.stream(32)
        for degree in range(5):
            rows = ref.mixed_rows(numbers, degree, 5)
            for many in range(max(Plane(rows).degree(), 0), 9):
                for triangle in TRIANGLES[:4]:
                    self.check(rows, triangle, many)
                    self.assertEqual(corners(Plane(rows), triangle, degree=many), corners(Plane(rows), triangle, many))
        self.assertEqual(corners(Plane(((1,),)), LEFT, degree=None), ((1, 1),))

    def test_values_at_the_tips(self):
        numbers = ref.stream(33)
        for degree in range(9):
            plane = Plane(ref.mixed_rows(numbers, degree, 10 ** 9))
            for triangle in TRIANGLES:
                found = corners(plane, triangle)
                self.assertEqual((found[0], found[-degree - 1], found[-1]), tuple(plane.at(place) for place in triangle))

    def test_degree_24(self):
        plane = Plane([[0] * 13] * 12 + [[0] * 12 + [1]])
        for many in (None, 24):
            found = corners(plane, LEFT, many)
            self.assertEqual(len(found), 325)
            # x ** 12 * y ** 12 has one corner other than 0, for v ** 12 * w ** 12: 1 in 24! / (12! * 12!).
            at = ref.triples(24).index((0, 12, 12))
            self.assertEqual(found[at], (1, 2704156))
            self.assertEqual(sum(number[0] for number in found), 1)

    def test_no_triangles(self):
        for odd in NO_TRIANGLES:
            for plane in (Plane(()), Plane(((1, 2), (3,)))):
                self.assert_bad_row(odd, lambda: corners(plane, odd))
                self.assert_bad_row(odd, lambda: corners(plane, odd, "no"))

    def test_no_degrees(self):
        for plane, wrong in (
            (Plane(((1, 2, 3),)), (-1, 0, 1, 25, 10 ** 30)), (Plane(()), (-1, 25)), (Plane(((4,),)), (-1, 25)),
            (Plane([[0] * 13] * 12 + [[0] * 13 + [1]]), (2, 24, 25, 26)),
        ):
            for degree in wrong + (True, False, "2", 2.0, (2, 1), [3], (), Fraction(3), object()):
                self.assert_bad_number("degree", degree, lambda: corners(plane, LEFT, degree))
                self.assert_bad_number("degree", degree, lambda: corners(plane, LEFT, degree=degree))

    def test_the_triangle_itself_stays(self):
        triangle = [[0, 0], [[2, 4], 0], [0, 1]]
        corners(Plane(((1, 2),)), triangle)
        halved(triangle, 1)
        self.assertEqual(triangle, [[0, 0], [[2, 4], 0], [0, 1]])


class TestHalved(TriangleCase):

    def test_known_halves(self):
        a, b, c = ((0, 1), (0, 1)), ((4, 1), (0, 1)), ((0, 1), (2, 1))
        ab, bc, ca = ((2, 1), (0, 1)), ((2, 1), (1, 1)), ((0, 1), (1, 1))
        triangle = ((0, 0), (4, 0), (0, 2))
        self.assertEqual(halved(triangle, 0), ((a, ab, c), (ab, b, c)))
        self.assertEqual(halved(triangle, 1), ((a, b, bc), (a, bc, c)))
        self.assertEqual(halved(triangle, 2), ((ca, b, c), (a, b, ca)))

    def test_all_sides(self):
        for triangle in TRIANGLES:
            for side in range(3):
                found = halved(triangle, side)
                self.assertIs(type(found), tuple)
                for half in found:
                    self.assert_triangle(half)
                expected = ref.halves(ref.places(triangle), side)
                self.assertEqual(tuple(ref.places(half) for half in found), expected)

    def test_no_triangles(self):
        for odd in NO_TRIANGLES:
            self.assert_bad_row(odd, lambda: halved(odd, 0))
            self.assert_bad_row(odd, lambda: halved(odd, 3))

    def test_no_sides(self):
        for side in (-1, 3, 10 ** 30, True, False, None, "0", 1.0, (1, 1), [0], (), object()):
            self.assert_bad_number("side", side, lambda: halved(LEFT, side))


SQUARE = ((0, 0), (2, 0), (2, 2), (0, 2))
ROOMS = (
    (((0, 0), (3, 0), (1, 2)),), (((0, 0), (0, 3), (2, 1)),), (SQUARE,), (SQUARE[::-1],), (((0, 0), (2, 1), (3, 3), (1, 2)),),
    # Corners above one another, corners that point inwards.
    (((0, 0), (4, 0), (4, 4), (2, 1), (0, 4)),), (((0, 0), (4, 0), (2, 1), (2, 3), (4, 4), (0, 4)),),
    (((0, 0), (1, 3), (2, 0), (3, 3), (4, 0), (4, 6), (0, 6)),), (((0, 0), (6, 0), (6, 6), (3, 6), (3, 3), (2, 3), (2, 5), (0, 5)),),
    ((((0, 1), (0, 7)), ([1, 2], -3), [[9, 4], (1, 3)], (1, (5, 2))),),
    # Holes, with corners above and below those of others.
    (((0, 0), (9, 0), (9, 9), (0, 9)), (((3, 3), (6, 3), (6, 6), (3, 6)),)),
    (((0, 0), (9, 0), (9, 9), (0, 9)), (((3, 3), (5, 4), (6, 6)), ((3, 7), (4, 8), (3, 8)), ((1, 1), (2, 1), (1, 2)))),
    (((0, 0), (9, 1), (8, 9), (4, 5), (1, 9)), [[(4, 1), (6, 2), (5, 4)], [(2, 2), (3, 3), (2, 4), ((3, 2), 3)]]),
)


class TestTriangles(TriangleCase):

    def expected(self, room):
        """Strips and pieces by Fractions."""
        sides = [ref.places(side) for side in room.sides]
        lines = sorted({place[0] for side in sides for place in side})
        found = []
        for left, right in zip(lines, lines[1:]):
            across = []
            for (a, b), (c, d) in sides:
                if min(a, c) <= left and max(a, c) >= right:
                    low, high = (b + (x - a) * (d - b) / (c - a) for x in (left, right))
                    across.append((low + high, low, high))
            across.sort()
            for (_, low, high), (_, over, above) in zip(across[::2], across[1::2]):
                a, b, c, d = (left, low), (left, over), (right, high), (right, above)
                found += [three for three in ((a, c, d), (a, d, b)) if len(set(three)) == 3]
        return found

    def test_known_rooms(self):
        def told(*rows):
            return tuple(tuple(tuple(ref.pair(number) for number in place) for place in row) for row in rows)

        self.assertEqual(triangles(Room(SQUARE)), told(((0, 0), (2, 0), (2, 2)), ((0, 0), (2, 2), (0, 2))))
        self.assertEqual(triangles(Room(((0, 0), (3, 0), (1, 2)))), told(((0, 0), (1, 0), (1, 2)), ((1, 0), (3, 0), (1, 2))))
        self.assertEqual(triangles(Room(((0, 0), (0, 3), (2, 1)))), told(((0, 0), (2, 1), (0, 3))))
        self.assertEqual(triangles(Room(((2, 0), (2, 3), (0, 1)))), told(((0, 1), (2, 0), (2, 3))))
        self.assertEqual(triangles(Room(((0, 0), (2, 0), (2, 2), (1, 1), (0, 2)))), told(
            ((0, 0), (1, 0), (1, 1)), ((0, 0), (1, 1), (0, 2)), ((1, 0), (2, 0), (2, 2)), ((1, 0), (2, 2), (1, 1))))
        self.assertEqual(triangles(Room(((0, 0), (4, 0), (4, 4), (0, 4)), (((1, 1), (3, 1), (3, 2)),))), told(
            ((0, 0), (1, 0), (1, 4)), ((0, 0), (1, 4), (0, 4)), ((1, 0), (3, 0), (3, 1)), ((1, 0), (3, 1), (1, 1)),
            ((1, 1), (3, 2), (3, 4)), ((1, 1), (3, 4), (1, 4)), ((3, 0), (4, 0), (4, 4)), ((3, 0), (4, 4), (3, 4))))
        self.assertEqual(triangles(Room(((0, 0), (1, 0), (2, 1), (0, 1)))), told(
            ((0, 0), (1, 0), (1, 1)), ((0, 0), (1, 1), (0, 1)), ((1, 0), (2, 1), (1, 1))))
        self.assertEqual(triangles(Room(((0, 0), (2, 0), (3, 1), (1, 1)))), told(
            ((0, 0), (1, 0), (1, 1)), ((1, 0), (2, 0), (2, 1)), ((1, 0), (2, 1), (1, 1)), ((2, 0), (3, 1), (2, 1))))

    def test_all_rooms(self):
        for arguments in ROOMS:
            for turned in (False, True):
                room = Room(arguments[0][::-1] if turned else arguments[0], *arguments[1:])
                found = triangles(room)
                self.assertIs(type(found), tuple)
                for triangle in found:
                    self.assert_triangle(triangle)
                self.assertEqual([ref.places(triangle) for triangle in found], self.expected(room))
                self.assert_parts(room, [ref.places(triangle) for triangle in found])

    def assert_parts(self, room, parts):
        """Together the parts are as large as the room, each against the clock, each with its middle in the room."""
        twice = [ref.area(part) for part in parts]
        self.assertGreater(min(twice), 0)
        whole = abs(ref.area(ref.places(room.corners))) - sum(abs(ref.area(ref.places(hole))) for hole in room.holes)
        self.assertEqual(sum(twice), whole)
        for part in parts:
            middle = [ref.pair(sum(place[k] for place in part) / 3) for k in (0, 1)]
            self.assertIs(room.has(middle), True)

    def test_mixed_stars(self):
        numbers = ref.stream(34)
        directions = ((3, 0), (2, 1), (1, 3), (-1, 2), (-3, 1), (-2, -1), (-1, -3), (1, -2), (2, -1))
        for _ in range(60):
            corners_ = []
            for a, b in directions:
                if next(numbers) % 4:
                    size = Fraction(1 + next(numbers) % 9, 1 + next(numbers) % 3)
                    corners_.append((ref.pair(a * size), ref.pair(b * size)))
            try:
                room = Room(corners_)
            except BadRow:
                continue
            found = [ref.places(triangle) for triangle in triangles(room)]
            self.assertEqual(found, self.expected(room))
            self.assert_parts(room, found)


if __name__ == "__main__":
    unittest.main()
