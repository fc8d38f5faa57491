"""Points [13] and [14]: signs of polynomials of two letters in rooms."""

import unittest
from fractions import Fraction

import reference as ref
from flowpapers.errors import BadNumber
from flowpapers.planes import Plane, plane_of
from flowpapers.rooms import Room
from flowpapers.triangles import Cover, Near, Under, is_cover, never_below_in, triangles

UNIT = Room(((0, 0), (1, 0), (1, 1), (0, 1)))
WIDE = Room(((-8, -8), (8, -8), (8, 8), (-8, 8)))
ODD_ROOM = Room(((0, 0), (4, 0), (4, 4), (2, (3, 2)), (0, 4)), (((1, (1, 2)), (2, (1, 2)), (1, 1)),))
TRIANGLE = Room(((0, 0), (1, 0), (0, 1)))
X, Y = plane_of("x"), plane_of("y")


def square(plane):
    return plane * plane


def chebyshev(letter):
    """The polynomial of degree 4 that lies between -1 and 1 for letters from -8 to 8, and reaches both often."""
    part = square((1, 8) * letter)
    return 8 * square(part) - 8 * part + 1


class CoverCase(unittest.TestCase):

    def assert_cover(self, plane, room, told):
        self.assertIs(type(told), Cover)
        self.assertTrue(self.holds(plane, room, told.trees))
        self.assertIs(is_cover(plane, room, told), True)

    def holds(self, plane, room, trees):
        """Whether all corners are from 0 on on all triangles to which the trees lead."""
        found, one = triangles(room), ref.table(plane.rows)
        if type(trees) is not tuple or len(trees) != len(found):
            return False
        degree = max(plane.degree(), 0)
        for tree, triangle in zip(trees, found):
            for leaf in ref.leaves(tree, ref.places(triangle)):
                if min(ref.triangle_corners(one, leaf, degree)) < 0:
                    return False
        return True

    def assert_under(self, plane, room, told):
        self.assertIs(type(told), Under)
        for number in (*told.place, told.number):
            self.assertIs(type(number), tuple)
            self.assertEqual(number, ref.pair(Fraction(*number)))
        self.assertIs(type(told.place), tuple)
        self.assertIs(room.has(told.place), True)
        x, y = ref.places((told.place,))[0]
        self.assertEqual(told.number, ref.pair(ref.value(ref.table(plane.rows), x, y)))
        self.assertLess(told.number[0], 0)
        self.assertIs(is_cover(plane, room, told), False)

    def check(self, plane, room, bits, least=None):
        """Whether the answer is right, the least value being known to be least."""
        told = never_below_in(plane, room, bits)
        gap = Fraction(1, 2 ** bits)
        if isinstance(told, Near):
            self.assertIsNotNone(least)
            self.assertTrue(-gap <= least <= gap)
            self.assertIs(is_cover(plane, room, told), False)
        elif isinstance(told, Cover):
            self.assert_cover(plane, room, told)
            self.assertTrue(least is None or least >= 0)
        else:
            self.assert_under(plane, room, told)
            self.assertTrue(least is None or least < 0)
        return told


class TestNeverBelowIn(CoverCase):

    def test_constants_and_degree_1(self):
        for room in (UNIT, WIDE, ODD_ROOM, TRIANGLE):
            for bits in (0, 7, 60):
                for number in (0, 1, (1, 10 ** 60)):
                    told = self.check(Plane(((number,),)), room, bits)
                    self.assertEqual(told.trees, ((),) * len(triangles(room)))
                self.assert_under(Plane((((-1, 10 ** 60),),)), room, self.check(Plane((((-1, 10 ** 60),),)), room, bits, -1))
        for plane, room, kept in (
            (X, UNIT, True), (X, WIDE, False), (X + Y, ODD_ROOM, True), (4 - X, ODD_ROOM, True), (2 - X, ODD_ROOM, False),
            (1 - X - Y, TRIANGLE, True), (1 - X - Y - (1, 10 ** 30), TRIANGLE, False), (Y - X, UNIT, False),
        ):
            told = self.check(plane, room, 12)
            self.assertIs(isinstance(told, Cover), kept)

    def test_far_above_and_far_below(self):
        for text, room, kept in (
            ("x^2 + y^2 + 1", WIDE, True), ("x^2 + y^2 - 1", WIDE, False), ("x*y + 1/10", UNIT, True), ("x*y + 65", WIDE, True),
            ("x*y + 63", WIDE, False), ("x^2 - x + 1/3", UNIT, True), ("x^2 - x + 1/5", UNIT, False),
            ("x^4*y^2 + x^2*y^4 - 3*x^2*y^2 + 2", WIDE, True), ("x^4*y^2 + x^2*y^4 - 3*x^2*y^2 + 1/2", WIDE, False),
            ("x^2 - 2*x*y + y^2 + 1/100", ODD_ROOM, True), ("x^3 - y^3", UNIT, False), ("1 - x^8", UNIT, True),
            ("1 + x^2*y - x*y^2", UNIT, True), ("x^2 - 6*x + y^2 - 6*y + 17", ODD_ROOM, False), ("1/2 - x*y", UNIT, False),
        ):
            told = self.check(plane_of(text), room, 10)
            self.assertIs(isinstance(told, Cover), kept, text)

    def test_a_room_that_just_leaves_it_out(self):
        # Below 0 near (2, 3) alone, which lies above the notch of the room, and near (5/4, 5/8) in its hole.
        for at in ((2, 3), ((5, 4), (5, 8))):
            plane = square(X - at[0]) + square(Y - at[1]) - (1, 100)
            self.assert_cover(plane, ODD_ROOM, self.check(plane, ODD_ROOM, 12))
            self.assert_under(plane, WIDE, self.check(plane, WIDE, 12))
        plane = square(X - 3) + square(Y - 2) - (1, 100)
        self.assert_under(plane, ODD_ROOM, self.check(plane, ODD_ROOM, 12))

    def test_least_values_near_0(self):
        places = ((0, 0), ((1, 3), (2, 7)), ((1, 2), (1, 2)), (1, (1, 3)))
        for x, y in places:
            for bits in (0, 1, 4, 8, 12):
                gap = Fraction(1, 2 ** bits)
                for least in (0, gap, -gap, gap / 2, -gap / 2, gap * 9 / 8, -gap * 9 / 8, 3 * gap, -3 * gap):
                    plane = square(X - x) + 2 * square(Y - y) + ref.pair(least)
                    self.check(plane, UNIT, bits, Fraction(least))

    def test_near_is_told_where_nothing_else_is(self):
        # The least value is 0, at a place that no halving comes to.
        for bits in (0, 3, 12):
            plane = square(X - (1, 3)) + square(Y - (1, 5))
            self.assertIs(type(self.check(plane, UNIT, bits, 0)), Near)
        told = never_below_in(square(X - Y - (1, 3)), UNIT, 6)
        self.assertIs(type(told), Near)
        self.assertEqual(vars(told), {})

    def test_zero_at_corners_and_sides(self):
        for plane in (X * Y, X * (1 - X), square(X), X * X + Y * Y, (1 - X) * (1 - Y), X * X * Y, square(X * Y) * 5):
            self.check(plane, UNIT, 12, 0)

    def test_curves_of_zeros(self):
        for plane, room, bits in (
            ((1, 8) * square(X * X + Y * Y - 49), WIDE, 6), (square(X - 2 * Y), WIDE, 8), (square(X * Y - 1), WIDE, 5),
            (square(X * X - (1, 2)), UNIT, 9), (square(square(X) - Y), UNIT, 9), (square((1, 3) * X - (2, 7) * Y - 1), WIDE, 9),
        ):
            gap = Fraction(1, 2 ** bits)
            for least in (Fraction(0), 2 * gap, -2 * gap):
                self.check(plane + ref.pair(least), room, bits, least if least >= 0 else None)
            self.assertIs(type(never_below_in(plane - ref.pair(2 * gap), room, bits)), Under)

    def test_the_sizes_named(self):
        plane = 25000 * square(chebyshev(X) + chebyshev(Y))
        self.assertEqual(plane.degree(), 8)
        self.assertIs(type(never_below_in(plane, WIDE, 12)), Near)
        told = never_below_in(plane + (1, 1000), WIDE, 12)
        self.assertIs(type(told), Cover)
        self.assertIs(is_cover(plane + (1, 1000), WIDE, told), True)
        self.assertIs(is_cover(plane, WIDE, told), False)
        told = never_below_in(plane - (1, 1000), WIDE, 12)
        self.assert_under(plane - (1, 1000), WIDE, told)

    def test_long_numbers(self):
        numbers = ref.stream(41)
        inner = Plane(ref.mixed_rows(numbers, 2, 10 ** 25))
        room = Room(tuple((ref.mixed_ratio(numbers, 10 ** 30), ref.mixed_ratio(numbers, 10 ** 30)) for _ in range(3)))
        self.check(square(inner) + (1, 10), room, 12)
        self.check(-square(inner) - (1, 10), room, 12)

    def test_bad_bits(self):
        for bits in (-1, 61, True, None, "3", 2.0, (1, 1), [], 10 ** 100, Fraction(1)):
            for plane in (Plane(()), X, square(X)):
                with self.assertRaises(BadNumber) as seen:
                    never_below_in(plane, UNIT, bits)
                self.assertEqual(seen.exception.what, "bits")
                self.assertIs(seen.exception.number, bits)


class TestIsCover(CoverCase):

    def test_trees_bent_in_many_ways(self):
        plane = square(X - (1, 3)) + square(Y - (1, 5)) + (1, 50)
        trees = never_below_in(plane, UNIT, 6).trees
        self.assertTrue(any(trees))
        for k, tree in enumerate(trees):
            right = 0
            for other in self.bent(tree):
                bent = trees[:k] + (other,) + trees[k + 1:]
                expected = self.holds(plane, UNIT, bent)
                right += expected
                self.assertIs(is_cover(plane, UNIT, Cover(bent)), expected)
            self.assertGreater(right, 0)
        for bent in (trees[::-1], trees[:-1], trees + ((),), (), trees + trees, ((),) * len(trees)):
            self.assertIs(is_cover(plane, UNIT, Cover(bent)), self.holds(plane, UNIT, bent))

    def bent(self, tree):
        """Trees that differ from this one in one place."""
        yield (0, tree, tree)
        if tree:
            side, one, other = tree
            yield ()
            yield ((side + 1) % 3, one, other)
            yield ((side + 2) % 3, one, other)
            yield (side, other, one)
            for bent in self.bent(one):
                yield (side, bent, other)
            for bent in self.bent(other):
                yield (side, one, bent)
        else:
            for side in range(3):
                yield (side, (), ())
                yield (side, (0, (), ()), (2, (), (1, (), ())))

    def test_odd_values(self):
        plane = square(X) + (1, 10)
        many = len(triangles(UNIT))
        self.assertIs(is_cover(plane, UNIT, Cover(((),) * many)), True)
        odd_trees = [odd for odd in ref.ODD if odd != ()] + [
            (0,), (0, ()), (0, (), (), ()), ((), (), ()), (3, (), ()), (-1, (), ()), (True, (), ()), (False, (), ()), ("0", (), ()),
            (0, (), None), (0, [], ()), (0, (), []), [0, (), ()], (0, (1, (), ()), 5), (0.0, (), ()), [], (None, (), ()),
            ((0, 1), (), ()), (10 ** 30, (), ()), (0, (0, (), (0, (), (3, (), ()))), ()),
        ]
        for odd in odd_trees:
            for told in (Cover((odd,) + ((),) * (many - 1)), Cover(((),) * (many - 1) + (odd,)), Cover(odd), odd,
                         Cover((((0, odd, ()),) + ((),) * (many - 1))), Cover((((1, (), odd),) + ((),) * (many - 1)))):
                self.assertIs(is_cover(plane, UNIT, told), False)
        self.assertIs(is_cover(plane, UNIT, Cover([()] * many)), True)
        self.assertIs(is_cover(plane, UNIT, Cover([[]] * many)), False)
        for told in (((),) * many, Under((0, 0), -1), Near(), Cover, None, Cover(None), Cover(7), Cover(())):
            self.assertIs(is_cover(plane, UNIT, told), False)

    def test_covers_of_other_planes_and_rooms(self):
        told = never_below_in(square(X - (1, 3)) + (1, 100), UNIT, 12)
        self.assertIs(is_cover(square(X - (1, 3)) + (1, 100), UNIT, told), True)
        self.assertIs(is_cover(square(X - (1, 3)), UNIT, told), False)
        self.assertIs(is_cover(square(X - (1, 3)) + (1, 100), ODD_ROOM, told), False)
        self.assertIs(is_cover(-square(X), UNIT, told), False)
        self.assertIs(is_cover(Plane(()), UNIT, told), True)
        self.assertIs(is_cover(Plane(((-1,),)), UNIT, told), False)

    def test_values_at_tips_count(self):
        # Only the value at one corner is below 0.
        plane = X + Y - (1, 1000)
        self.assertIs(is_cover(plane, UNIT, Cover(((),) * 2)), False)
        self.assertIs(is_cover(plane + (1, 1000), UNIT, Cover(((),) * 2)), True)
        self.assertIs(is_cover(plane, UNIT, Cover(((0, (), ()), (0, (), ())))), False)

    def test_deep_trees(self):
        tree = ()
        for k in range(3000):
            tree = (k % 3, (), tree) if k % 2 else (k % 3, tree, ())
        plane = square(X - (1, 3)) + square(Y - (1, 5))
        self.assertIs(is_cover(plane + 3, UNIT, Cover((tree, ()))), True)
        self.assertIs(is_cover(plane, UNIT, Cover((tree, ()))), False)
        self.assertIs(is_cover(plane + 3, UNIT, Cover((tree, (0, tree, (3, tree, ()))))), False)

    def test_objects_keep_what_they_are_given(self):
        row = [(), [1]]
        told = Cover(row)
        row.append(3)
        self.assertEqual(told.trees, ((), [1]))
        under = Under([1, 2], [3])
        self.assertEqual((under.place, under.number), ((1, 2), (3,)))
        self.assertEqual((Under(None, "x").place, Under(None, "x").number, Cover({}).trees), (None, "x", {}))
        for one, other in ((Cover(()), Cover(())), (Under(1, 2), Under(1, 2)), (Near(), Near())):
            self.assertFalse(one == other)


if __name__ == "__main__":
    unittest.main()
