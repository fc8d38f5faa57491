"""Points [22] and [23]: rooms."""

import unittest
from fractions import Fraction

import reference as ref
from flowpapers.errors import BadRow
from flowpapers.rooms import Room

SQUARE = ((0, 0), (6, 0), (6, 6), (0, 6))
NOTCH = ((0, 0), (6, 0), (6, 6), (3, 2), (0, 6))
INNER = ((1, 1), (2, 1), (1, 2))

NO_BORDERS = (
    None, True, 0, "abc", b"abc", {}, {0: (0, 0), 1: (1, 0), 2: (0, 1)}, object(), (), ((0, 0),), ((0, 0), (1, 1)), (1, 2, 3),
    ((0, 0), (1, 0), "01"), ((0, 0), (1, 0), (0, True)), ((0, 0), (1, 0), ((1, 0), 1)), ((0, 0), (1, 0), (0, 1, 2)), ((0, 0), (1, 0), None),
    # Neighbors alike, three neighbors on one line, also over the end.
    ((0, 0), (0, 0), (1, 0), (0, 1)), ((0, 0), (1, 0), (0, 1), (0, 0)), ((0, 0), (1, 0), (2, 0)), ((0, 0), (1, 0), (2, 0), (0, 2)),
    ((1, 0), (2, 0), (0, 2), (0, 0)), ((0, 0), (2, 0), (1, 0), (1, 1)), ((0, 0), (2, 0), (2, 2), (1, 0)),
    # Sides that cross, touch or lie on one another.
    ((0, 0), (2, 2), (2, 0), (0, 2)), ((0, 0), (4, 0), (4, 4), (2, 0), (0, 4)), ((0, 0), (4, 0), (4, 4), (2, -1), (0, 4)),
    ((0, 0), (4, 0), (2, 2), (4, 4), (0, 4), (2, 2)), ((0, 0), (4, 0), (4, 1), (1, 1), (1, 0), (3, 0), (3, 5), (0, 5)),
    ((0, 0), (3, 0), (0, 1), (1, 0), (-1, -1)), ((0, 0), (5, 1), (1, 1), (4, 0), (4, 9)),
    ((0, 0), (2, 0), (2, 2), (0, 0), (-2, 2), (-2, 0)),
)


class RoomCase(unittest.TestCase):

    def assert_bad_row(self, value, call):
        with self.assertRaises(BadRow) as seen:
            call()
        self.assertIs(seen.exception.row, value)


class TestRoom(RoomCase):

    def test_attributes(self):
        room = Room([[0, 0], ((8, 4), [0, 3]), (0, 1)], [[(( 1, 4), (2, 8)), [(1, 2), (1, 4)], ((1, 4), (1, 2))]])
        a, b, c = ((0, 1), (0, 1)), ((2, 1), (0, 1)), ((0, 1), (1, 1))
        d, e, f = ((1, 4), (1, 4)), ((1, 2), (1, 4)), ((1, 4), (1, 2))
        self.assertEqual(room.corners, (a, b, c))
        self.assertEqual(room.holes, ((d, e, f),))
        self.assertEqual(room.sides, ((a, b), (b, c), (c, a), (d, f), (f, e), (e, d)))
        turned = Room((a, c, b), ((d, f, e),))
        self.assertEqual(turned.corners, (a, c, b))
        self.assertEqual(turned.holes, ((d, f, e),))
        self.assertEqual(turned.sides, room.sides)
        self.assertEqual(Room(SQUARE).holes, ())
        self.assertEqual(Room(SQUARE, []).sides, Room(SQUARE, holes=()).sides)

    def test_sides_begin_at_the_first_corner(self):
        for k in range(5):
            row = NOTCH[k:] + NOTCH[:k]
            for corners in (row, row[:1] + row[:0:-1]):
                sides = [ref.places(side) for side in Room(corners).sides]
                expected = ref.places(row)
                self.assertEqual(sides, list(zip(expected, expected[1:] + expected[:1])))

    def test_later_changes_do_not_reach_it(self):
        row, hole = [[0, 0], [6, 0], [0, 6]], [[1, 1], [2, 1], [1, 2]]
        holes = [hole]
        room = Room(row, holes)
        row[1][0] = 9
        hole.append([3, 3])
        holes.append(3)
        self.assertEqual(room.corners[1], ((6, 1), (0, 1)))
        self.assertEqual(len(room.holes), 1)
        self.assertEqual(len(room.holes[0]), 3)

    def test_rows_that_are_none(self):
        for odd in NO_BORDERS:
            self.assert_bad_row(odd, lambda: Room(odd))
            self.assert_bad_row(odd, lambda: Room(odd, "no"))

    def test_rows_that_are_some(self):
        for row in (
            NOTCH, SQUARE, INNER, ((0, 0), (4, 0), (4, 4), (2, 1), (0, 4)), ((0, 0), (4, 0), (4, 1), (1, 1), (1, 2), (4, 2), (4, 3), (0, 3)),
            ((0, 0), (9, 0), (9, 9), (1, 9), (1, 2), (7, 2), (7, 7), (3, 7), (3, 4), (5, 4), (5, 5), (4, 5), (4, 6), (6, 6), (6, 3),
             (2, 3), (2, 8), (8, 8), (8, 1), (0, 1)),
            ((0, 0), (10 ** 60, 1), (1, 10 ** 60)), ((0, 0), (2, 0), (1, (1, 10 ** 60))),
        ):
            self.assertEqual(Room(row).corners, tuple(tuple(ref.pair(ref.fraction(number)) for number in place) for place in row))

    def test_values_that_are_no_holes(self):
        for odd in (None, True, 0, "", "ab", {}, {1: 2}, object(), 1.5, {(1, 2)}):
            self.assert_bad_row(odd, lambda: Room(SQUARE, odd))
            self.assert_bad_row(odd, lambda: Room(SQUARE, holes=odd))

    def test_wrong_holes(self):
        outer = (
            ((7, 7), (8, 7), (7, 8)), ((-1, -1), (9, -1), (9, 9), (-1, 9)), SQUARE, ((0, 0), (2, 1), (1, 2)), ((0, 3), (2, 1), (1, 2)),
            ((1, 1), (2, 0), (2, 1)), ((1, 1), (7, 1), (1, 2)), ((0, 1), (1, 1), (1, 2), (0, 2)), ((2, 5), (4, 5), (3, 7)),
        )
        for hole in NO_BORDERS + outer:
            self.assert_bad_row(hole, lambda: Room(SQUARE, (hole,)))
            self.assert_bad_row(hole, lambda: Room(SQUARE, [((4, 4), (5, 4), (4, 5)), hole, ((9, 9), (8, 9), (9, 8)), INNER]))
        # Above the corner that points inwards.
        for hole in (((3, 3), (4, 5), (3, 5)), ((2, 1), (4, 1), (3, 2)), ((2, 1), (4, 1), (3, 3))):
            self.assert_bad_row(hole, lambda: Room(NOTCH, (hole,)))
        self.assertEqual(len(Room(NOTCH, (((2, 1), (4, 1), (3, (19, 10))),)).holes), 1)

    def test_holes_beside_one_another(self):
        for other in (
            INNER, INNER[::-1], INNER[1:] + INNER[:1], ((1, 1), (3, 3), (1, 3)), ((2, 1), (3, 1), (3, 2)), (((3, 2), (3, 2)), (3, 2), (2, 3)),
            (((1, 2), (1, 2)), (4, (1, 2)), ((1, 2), 4)), (((5, 4), (5, 4)), ((4, 3), (5, 4)), ((5, 4), (4, 3))),
            (((5, 4), (5, 4)), (4, 4), (3, 4)), ((1, (1, 2)), (2, (1, 2)), ((4, 3), (7, 3))),
        ):
            for far in ((), (((4, 4), (5, 4), (4, 5)),)):
                self.assert_bad_row(other, lambda: Room(SQUARE, (*far, INNER, other)))
        for other in (((2, 2), (3, 2), (2, 3)), ((1, 3), (2, 3), (1, 4)), ((3, 1), (4, 1), (4, 2)), ((2, (11, 10)), (3, 2), (2, 2))):
            self.assertEqual(len(Room(SQUARE, (INNER, other)).holes), 2)
        # The first wrong one counts.
        wrong = (((9, 9), (8, 9), (9, 8)), INNER[::-1], None)
        for k in range(3):
            holes = (INNER,) + wrong[k:]
            self.assert_bad_row(wrong[k], lambda: Room(SQUARE, holes))


class TestDrawnRooms(RoomCase):
    """Rows drawn at random, judged by plain sums of Fractions."""

    def turn(self, a, b, c):
        return (b[0] - a[0]) * (c[1] - a[1]) - (b[1] - a[1]) * (c[0] - a[0])

    def is_on(self, side, point):
        (a, b), (x, y) = side, point
        return self.turn(a, b, point) == 0 and min(a[0], b[0]) <= x <= max(a[0], b[0]) and min(a[1], b[1]) <= y <= max(a[1], b[1])

    def do_meet(self, side, other):
        (a, b), (c, d) = side, other
        if any(self.is_on(side, point) for point in other) or any(self.is_on(other, point) for point in side):
            return True
        return self.turn(a, b, c) * self.turn(a, b, d) < 0 and self.turn(c, d, a) * self.turn(c, d, b) < 0

    def sides(self, row):
        return list(zip(row, row[1:] + row[:1]))

    def is_border(self, row):
        many, sides = len(row), self.sides(row)
        if any(self.turn(row[k - 2], row[k - 1], row[k]) == 0 for k in range(many)):
            return False
        return not any(
            self.do_meet(sides[k], sides[m]) for k in range(many) for m in range(k + 2, many) if (k, m) != (0, many - 1))

    def where(self, row, point):
        """1 inside, 0 on the row, -1 beyond: by how often the row crosses what leads up from the point."""
        if any(self.is_on(side, point) for side in self.sides(row)):
            return 0
        many = 0
        for (a, b), (c, d) in self.sides(row):
            if (a <= point[0]) != (c <= point[0]) and b + (d - b) * (point[0] - a) / (c - a) > point[1]:
                many += 1
        return 1 if many % 2 else -1

    def wrong(self, corners, holes):
        """The first row for which there is no room, None if there is one."""
        if not self.is_border(ref.places(corners)):
            return corners
        earlier = []
        for hole in holes:
            row = ref.places(hole)
            if not self.is_border(row) or self.where(ref.places(corners), row[0]) != 1:
                return hole
            for other in [ref.places(corners)] + earlier:
                if any(self.do_meet(side, further) for side in self.sides(row) for further in self.sides(other)):
                    return hole
            for other in earlier:
                if self.where(other, row[0]) == 1 or self.where(row, other[0]) == 1:
                    return hole
            earlier.append(row)
        return None

    def drawn(self, numbers, size, many):
        return tuple((self.number(numbers, size), self.number(numbers, size)) for _ in range(many))

    def number(self, numbers, size):
        bottom = (1, 1, 2, 3)[next(numbers) % 4]
        return next(numbers) % (size * bottom + 1), bottom

    def test_by_the_definition(self):
        numbers = ref.stream(51)
        found = {"corners": 0, "hole": 0, "none": 0}
        for _ in range(900):
            size = 2 + next(numbers) % 5
            corners = self.drawn(numbers, size, 3 + next(numbers) % 4) if next(numbers) % 3 == 0 else ((0, 0), (size, 0), (size, size), (0, size))
            holes = tuple(self.drawn(numbers, size, 3 + next(numbers) % 2) for _ in range(next(numbers) % 4))
            if next(numbers) % 2:
                holes = tuple(tuple((ref.pair(ref.fraction(x) / 3 + k), ref.pair(ref.fraction(y) / 3 + 1)) for x, y in hole) for k, hole in enumerate(holes))
            wrong = self.wrong(corners, holes)
            if wrong is not None:
                self.assert_bad_row(wrong, lambda: Room(corners, holes))
                found["corners" if wrong is corners else "hole"] += 1
                continue
            room = Room(corners, holes)
            found["none"] += 1
            self.assertEqual((len(room.corners), len(room.holes)), (len(corners), len(holes)))
            rows = [ref.places(corners)] + [ref.places(hole) for hole in holes]
            self.assertEqual(room.area(), ref.pair((abs(ref.area(rows[0])) - sum(abs(ref.area(row)) for row in rows[1:])) / 2))
            for place in self.drawn(numbers, size, 6) + corners:
                point = ref.places((place,))[0]
                expected = self.where(rows[0], point) >= 0 and all(self.where(row, point) <= 0 for row in rows[1:])
                self.assertIs(room.has(place), expected)
        self.assertTrue(min(found.values()) > 80, found)

    def test_greatest_rooms(self):
        """36 corners in all, with three holes and long numbers."""
        numbers = ref.stream(52)

        def ring(x, y, size, many):
            """Corners on a square around a place, moved a little, from below to the right on."""
            steps = [(k, 0) for k in range(many)] + [(many, k) for k in range(many)]
            steps += [(many - k, many) for k in range(many)] + [(0, many - k) for k in range(many)]
            return [tuple(
                ref.pair(Fraction(base) + Fraction(size * step, many) + Fraction(next(numbers) % 1000, 10 ** 5 + next(numbers)))
                for base, step in zip((x, y), row)) for row in steps]
        corners, holes = ring(-50, -50, 90, 3), [ring(-40, -40, 10, 2), ring(0, -40, 20, 2), ring(-20, 10, 15, 2)]
        room = Room(corners, holes)
        self.assertEqual(len(room.sides), 36)
        self.assertIs(room.has((-45, -45)), True)
        for inside in ((-35, -35), (10, -30), (-12, 18)):
            self.assertIs(room.has(inside), False)
        for k, moved in enumerate((ring(-35, -35, 10, 2), ring(45, -40, 20, 2), ring(-19, 11, 13, 2))):
            self.assert_bad_row(moved, lambda: Room(corners, holes[:k + 1] + [moved]))


class TestHas(RoomCase):

    def test_points(self):
        room = Room(NOTCH, (INNER, ((3, 1), (4, 1), (4, (3, 2)))))
        for place, expected in (
            ((0, 0), True), ((6, 6), True), ((3, 2), True), ((3, 3), False), ((3, 6), False), ((0, 3), True), ((-1, 3), False),
            ((7, 6), False), ((5, 5), False), ((5, (9, 2)), True), (((9, 2), 4), True), (((9, 2), (401, 100)), False), ((6, 3), True),
            ((1, 1), True), (((3, 2), 1), True), (((3, 2), (3, 2)), True), (((5, 4), (5, 4)), False), ((2, 2), True), (((7, 2), (11, 10)), False),
            (((7, 2), (5, 4)), True), ((4, (5, 4)), True), ((3, 0), True), ((3, (-1, 10 ** 60)), False), ((3, (1, 10 ** 60)), True),
            ((5, 0), True), ((-5, 0), False), ((9, 0), False), ((1, 6), False), ((-1, 6), False), ((9, 2), False), ((-1, 2), False),
            ([[0, 5], [2, 2]], True),
        ):
            self.assertIs(room.has(place), expected, place)

    def test_all_points_of_a_grid(self):
        # A square of 5 times 5 with a slot from above, and a square hole from (1, 1) to (2, 2).
        corners = ((0, 0), (5, 0), (5, 5), (3, 5), (3, 3), (2, 3), (2, 5), (0, 5))
        room = Room(corners, (((1, 1), (2, 1), (2, 2), (1, 2)),))
        for j in range(-4, 25):
            for i in range(-4, 25):
                in_square = 0 <= i <= 20 and 0 <= j <= 20
                in_slot = 8 < i < 12 and j > 12
                in_hole = 4 < i < 8 and 4 < j < 8
                self.assertIs(room.has(((i, 4), (j, 4))), in_square and not in_slot and not in_hole, (i, j))

    def test_values_that_are_no_places(self):
        room = Room(SQUARE)
        for odd in (None, True, 0, "ab", (), (1,), (1, 2, 3), (1, None), (True, 1), ((1, 0), 1), (1, (1, -1)), {1: 2, 3: 4}, 1.5, object(),
                    ((1, 2, 3), 4), (1.0, 2), [1, "2"]):
            self.assert_bad_row(odd, lambda: room.has(odd))


class TestArea(RoomCase):

    def test_areas(self):
        for corners, holes, twice in (
            (SQUARE, (), 72), (SQUARE[::-1], (), 72), (INNER, (), 1), (NOTCH, (), 48), (SQUARE, (INNER, ((4, 4), (5, 4), (4, 5))), 70),
            (((0, 0), ((1, 3), 0), (0, (1, 5))), (), Fraction(1, 15)), (NOTCH[::-1], (INNER[::-1],), 47),
        ):
            found = Room(corners, holes).area()
            self.assertEqual(found, ref.pair(Fraction(twice) / 2))
            self.assertIs(type(found), tuple)


if __name__ == "__main__":
    unittest.main()
