"""Points [40] to [45]: rooms without rests, and how all flows leave them."""

import unittest
from fractions import Fraction

import papers
import reference as ref
from flowpapers.errors import BadNumber, BadRow, Shared
from flowpapers.fields import Field, slope_along
from flowpapers.norests import (
    NotRising, Rested, Restless, Rising, is_restless, is_rising, leaves_within, no_rest, rising,
)
from flowpapers.planes import Plane, plane_of
from flowpapers.rests import Rest, rests
from flowpapers.rooms import Room
from flowpapers.triangles import Cover, triangles

UNIT = Room(((0, 0), (1, 0), (1, 1), (0, 1)))
RIGHT = Room(((1, -1), (3, -1), (3, 1), (1, 1)))
RING = Room(((-2, -2), (2, -2), (2, 2), (-2, 2)), (((-1, -1), (1, -1), (1, 1), (-1, 1)),))
ODD_ROOM = Room(((0, 0), (4, 0), (4, 4), (2, (3, 2)), (0, 4)), (((1, (1, 2)), (2, (1, 2)), (1, 1)),))
ROOMS = (UNIT, RIGHT, RING, ODD_ROOM, Room(((-90, -80), (90, -90), (80, 90))))
ODD_TREES = (
    None, True, 0, "ab", {}, ((),) * 3, (), ((),), [()], ((), (), ()), ((), None), ((0,), ()), ((3, (), ()), ()), ((0, (), ()), (True, (), ())),
    ((0, ()), ()), ((0, (), (), ()), ()), (("0", (), ()), ()), ((0.0, (), ()), ()), (1, 2), ((0, (), (1, (), (2, (), 5))), ()), range(2),
    ((-1, (), ()), ()), {(): 1, (0, (), ()): 2}, "()", ([0, [], "x"], []),
)


def field_of(p, q):
    return Field(plane_of(p), plane_of(q))


def drawn_tree(numbers, depth):
    if depth == 0 or next(numbers) % 3 == 0:
        return ()
    return next(numbers) % 3, drawn_tree(numbers, depth - 1), drawn_tree(numbers, depth - 1)


def as_lists(tree):
    return [as_lists(part) if isinstance(part, tuple) else part for part in tree]


class NoRestCase(unittest.TestCase):

    def assert_bad(self, kind, fields, call):
        with self.assertRaises(kind) as seen:
            call()
        for name, value in fields.items():
            self.assertIs(getattr(seen.exception, name), value)

    def assert_bad_number(self, what, number, call):
        with self.assertRaises(BadNumber) as seen:
            call()
        self.assertEqual(seen.exception.what, what)
        self.assertIs(seen.exception.number, number)


class TestNoRest(NoRestCase):

    def check(self, field, room):
        told = no_rest(field, room, 7)
        self.assertIs(type(told), Restless)
        self.assertTrue(papers.is_restless_right(field, room, told))
        self.assertIs(is_restless(field, room, told), True)
        for pair in told.pairs:
            for number in pair:
                self.assertEqual((type(number), number), (tuple, ref.pair(Fraction(*number))))
        return told

    def check_rested(self, field, room):
        for bits in (0, 7, 60):
            told, first = no_rest(field, room, bits), rests(field, room, bits)[0]
            self.assertIs(type(told), Rested)
            self.assertIs(type(told.rest), Rest)
            self.assertEqual(vars(told.rest), vars(first))

    def test_known(self):
        for p, q, room in (
            ("1", "0", UNIT), ("0", "-1/7", RING), ("x + 1", "y", UNIT), ("x", "y", RIGHT), ("x", "y", RING), ("-y", "x", RING),
            ("x^2 - y", "y^2 + x^2", RING), ("x - 1", "y - 1/2 - x^2", UNIT), ("x^3 - 3*x*y^2", "3*x^2*y - y^3", RING), ("x*y", "x^2 - y^2", RING),
            ("y - x^2", "y - x^2 - 1/1000", UNIT), ("x*y - 5", "x^2 + y^2 - 4", RING), ("x^2", "1", RING), ("1", "x^2 + y^3", ODD_ROOM),
            # Rests lie in the hole, or beside the room.
            ("x - 4/3", "y - 2/3", ODD_ROOM), ("x - 2", "y - 1501/1000", ODD_ROOM), ("x", "y", Room(((0, (1, 1000)), (1, 0), (1, 1)))),
        ):
            self.check(field_of(p, q), room)

    def test_nearly_resting(self):
        # Their sizes are least along a whole circle.
        x, y = plane_of("x"), plane_of("y")
        room = Room(((-3, -3), (3, -3), (3, 3), (-3, 3)), (((-1, -1), (1, -1), (1, 1), (-1, 1)),))
        for number in ((1, 10), (1, 200), (-1, 300)):
            ring = x * x + y * y - 4
            field = Field(ring * x - number * y, ring * y + number * x)
            self.assertGreater(len(self.check(field, room).pairs), 8)

    def test_rests(self):
        for p, q, room in (
            ("x", "y", UNIT), ("x - 1/2", "y - 1/3", UNIT), ("x^2 - 2", "y", RING), ("x^2 - 2", "y^2 - 2", RING), ("x - 1", "y", RING),
            ("x - 1", "y - 1/2", ODD_ROOM), ("x - 2", "y - 3/2", ODD_ROOM), ("x - 100000001/100000000", "y", RIGHT),
        ):
            self.check_rested(field_of(p, q), room)

    def test_drawn(self):
        numbers = ref.stream(101)
        found = {Restless: 0, Rested: 0}
        for _ in range(100):
            field = Field(*[Plane(ref.mixed_rows(numbers, next(numbers) % 4, 5)) for _ in range(2)])
            room = ROOMS[next(numbers) % len(ROOMS)]
            try:
                told = no_rest(field, room, 5)
            except Shared:
                continue
            found[type(told)] += 1
            if isinstance(told, Restless):
                self.assertEqual(rests(field, room, 5), ())
                self.check(field, room)
        self.assertTrue(min(found.values()) > 10, found)

    def test_errors_as_of_rests(self):
        for bits in (-1, 61, True, None, "3", 2.0, (1, 1), [], 10 ** 100):
            for field in (field_of("x", "y"), field_of("x", "x"), field_of("0", "0"), field_of("1", "0")):
                self.assert_bad_number("bits", bits, lambda: no_rest(field, UNIT, bits))
        for p, q, rows in (("x - 5", "2*x - 10", ((-5,), (1,))), ("0", "0", ()), ("0", "3*y", ((0, 1),))):
            with self.assertRaises(Shared) as seen:
                no_rest(field_of(p, q), UNIT, 0)
            self.assertEqual(seen.exception.plane, Plane(rows))


class TestIsRestless(NoRestCase):

    def test_one_thing_changed(self):
        for p, q, room in (("x", "y", RIGHT), ("1", "x^2", UNIT), ("x^2 - y", "1/9 + x", UNIT), ("2", "-1/3", UNIT)):
            field = field_of(p, q)
            told = no_rest(field, room, 3)
            right = 0
            for value in papers.sampled(papers.bent(told), 1200):
                expected = papers.is_restless_right(field, room, value)
                right += expected
                self.assertIs(is_restless(field, room, value), expected, vars(value))
            self.assertGreater(right, 0)

    def test_other_trees_and_pairs(self):
        numbers = ref.stream(102)
        pairs = ((1, 0), (0, 1), (-1, 0), (0, -1), (1, 1), (1, -1), (0, 0), ((1, 2), (3, 7)), ((2, 4), -1))
        right = 0
        for _ in range(300):
            field = Field(*[Plane(ref.mixed_rows(numbers, next(numbers) % 3, 3)) + next(numbers) % 9 for _ in range(2)])
            trees = tuple(drawn_tree(numbers, 2) for _ in triangles(UNIT))
            many = len(papers.leaves(UNIT, trees)) + (next(numbers) % 8 == 0) - (next(numbers) % 8 == 0)
            start = next(numbers) % len(pairs)
            told = Restless(trees, tuple(pairs[(start + next(numbers) % 2) % len(pairs)] for _ in range(many)))
            expected = papers.is_restless_right(field, UNIT, told)
            right += expected
            self.assertIs(is_restless(field, UNIT, told), expected)
        self.assertTrue(20 < right < 280, right)

    def test_factors_that_lower_the_degree(self):
        # x * x cancels: what is left has degree 1, and its corners are those for this degree.
        field = field_of("x^2 + y + 1/4", "x^2 - x")
        told = Restless(((), ()), ((1, -1), ((2, 3), (-2, 3))))
        self.assertIs(is_restless(field, UNIT, told), True)
        # For degree 2 the corners of this one are above 0, for degree 0 there is one alone.
        for pairs, expected in ((((0, 1), (0, 1)), True), (((1, 0), (0, 1)), False), (((0, 1), (0, -1)), False), (((0, 0), (0, 1)), False)):
            self.assertIs(is_restless(field_of("x^2 - x", "3"), UNIT, Restless(((), ()), pairs)), expected)
        # With its own degree a corner is at most 0, with a greater one it is not.
        field = field_of("x^3 - y^2 + y - 1/8 + 1/100 + x^2", "x^3")
        for tree in ((), (0, (), ()), (0, (0, (), ()), (1, (), ()))):
            for pair in ((1, -1), (1, 0), (2, -2)):
                told = Restless((tree, tree), (pair,) * 2 * len(papers.leaves(UNIT, (tree, ()))[:-1]))
                self.assertIs(is_restless(field, UNIT, told), papers.is_restless_right(field, UNIT, told))

    def test_any_values(self):
        field = field_of("1", "0")
        told = Restless(((), ()), ((1, 0), (1, 0)))
        self.assertIs(is_restless(field, UNIT, told), True)
        self.assertIs(is_restless(field, UNIT, Restless([(), ()], [(1, 0), (1, 0)])), True)
        self.assertIs(is_restless(field, UNIT, Restless([[], ()], [(1, 0), (1, 0)])), False)
        self.assertIs(is_restless(field, UNIT, Restless([(), ()], [[1, 0], (1, 0)])), False)
        for odd in ref.ODD + (Restless, Rested(told), (told,), told.trees, Restless(None, None), Restless((), ()), Restless(told.trees, None),
                              Restless(None, told.pairs), Restless(told.trees, ()), Cover(told.trees), Restless(told.pairs, told.trees)):
            self.assertIs(is_restless(field, UNIT, odd), False)
        for odd in ref.ODD:
            self.assertIs(is_restless(field, UNIT, Restless(((), odd), told.pairs)), odd == ())
            self.assertIs(is_restless(field, UNIT, Restless(told.trees, (odd, (1, 0)))), type(odd) is tuple and odd in ((1, 0), (1, -1)))
            self.assertIs(is_restless(field, UNIT, Restless(told.trees, ((odd, 0), (1, 0)))), False)
            self.assertIs(is_restless(field, UNIT, Restless(told.trees, ((1, 0), (1, odd)))), False)

    def test_objects_keep_what_they_are_given(self):
        row = [1, [2]]
        objects = (Restless(row, row), Rested(row), Rising(row), NotRising(row))
        row.append(3)
        for told in objects:
            for value in vars(told).values():
                self.assertEqual(value, (1, [2]))
            self.assertFalse(told == type(told)(*vars(told).values()))


class TestRising(NoRestCase):

    def check(self, field, room, trees, degree, expected=None):
        told = rising(field, room, trees, degree)
        self.assertTrue(papers.is_rising_right(field, room, trees, degree, told))
        self.assertIs(is_rising(field, room, trees, degree, told), True)
        if expected is not None:
            self.assertIs(type(told), expected)
        if isinstance(told, NotRising):
            for row in told.shares:
                self.assertEqual((type(row), type(row[0]), type(row[1]), row[2]), (tuple, int, int, ref.pair(Fraction(*row[2]))))
        return told

    def test_known(self):
        plain = ((), ())
        for p, q, room, trees, degree, expected in (
            ("1", "0", UNIT, plain, 1, Rising), ("0", "-1/10", UNIT, plain, 1, Rising), ("x + 1", "y", UNIT, plain, 1, Rising),
            ("x", "y", UNIT, plain, 1, NotRising), ("x", "y", UNIT, plain, 4, NotRising), ("0", "0", UNIT, plain, 1, NotRising),
            ("0", "0", UNIT, plain, 6, NotRising), ("0", "0", RING, ((),) * len(triangles(RING)), 6, NotRising),
            # A turn by more than half needs a greater degree.
            ("1 - y", "x", Room(((-1, -1), (1, -1), (1, (1, 2)), (-1, (1, 2)))), plain, 1, Rising),
            ("-y", "x", RING, ((),) * len(triangles(RING)), 4, NotRising), ("x", "y", RIGHT, plain, 1, Rising),
            ("x", "-y", RIGHT, plain, 2, Rising), ("-x", "y", RIGHT, plain, 1, Rising), ("1/1000000", "x^2", UNIT, plain, 1, Rising),
        ):
            self.check(field_of(p, q), room, trees, degree, expected)

    def test_just_rising(self):
        # x' is at least its least corner, 0 or a little more: so x alone rises, or nothing does.
        for number, expected in ((0, NotRising), ((1, 10 ** 30), Rising), ((-1, 10 ** 30), NotRising)):
            field = Field(plane_of("x") + number, plane_of("0"))
            self.check(field, UNIT, ((), ()), 1, expected)
            self.check(field, UNIT, ((0, (), ()), [1, [], []]), 3, expected)

    def test_trees_help(self):
        self.check(field_of("x^2 - x + 6/10", "0"), UNIT, ((), ()), 1, Rising)
        field = field_of("4*x^2 - 4*x + 3/2", "0")
        self.check(field, UNIT, ((), ()), 1, NotRising)
        self.check(field, UNIT, ((2, (), ()), (0, (), ())), 1, NotRising)
        self.check(field, UNIT, ((2, (1, (), ()), (0, (), ())), (0, (2, (), ()), (1, (), ()))), 1, Rising)

    def test_drawn(self):
        numbers = ref.stream(103)
        found = {Rising: 0, NotRising: 0}
        for _ in range(45):
            field = Field(*[Plane(ref.mixed_rows(numbers, next(numbers) % 4, 4)) + next(numbers) % 12 for _ in range(2)])
            room = ROOMS[next(numbers) % len(ROOMS)]
            trees = tuple(drawn_tree(numbers, 1) for _ in triangles(room))
            told = self.check(field, room, trees, 1 + next(numbers) % 3)
            found[type(told)] += 1
        self.assertTrue(min(found.values()) > 8, found)

    def test_a_list_that_holds_itself(self):
        endless = [0, (), ()]
        endless[1] = endless
        row = [endless, ()]
        self.assert_bad(BadRow, {"row": row}, lambda: rising(field_of("1", "0"), UNIT, row, 1))

    def test_lists(self):
        trees = ((0, (), (1, (), ())), ())
        field = field_of("1 + x", "y^2")
        for other in (list(trees), as_lists(trees), [trees[0], []]):
            told = rising(field, UNIT, other, 2)
            self.assertEqual(told.plane, rising(field, UNIT, trees, 2).plane)
            self.assertIs(is_rising(field, UNIT, other, 2, told), True)
            self.assertEqual(leaves_within(field, UNIT, other, told.plane), leaves_within(field, UNIT, trees, told.plane))

    def test_outermost_sizes(self):
        numbers = ref.stream(104)
        field = Field(*[Plane(ref.mixed_rows(numbers, 4, 9)) for _ in range(2)])
        trees = tuple(drawn_tree(numbers, 1) for _ in triangles(ODD_ROOM))
        for one in (field, Field(field.p + 3000, field.q)):
            told = rising(one, ODD_ROOM, trees, 4)
            self.assertIs(is_rising(one, ODD_ROOM, trees, 4, told), True)
        room = Room((((10 ** 59 + 1, 10 ** 59), 0), (2, (1, 10 ** 59 - 1)), (1, 1)))
        self.check(field_of("x^2", "1/7*y"), room, ((0, (), ()),) * len(triangles(room)), 2)

    def test_errors_in_their_order(self):
        field = field_of("1", "0")
        for odd in ODD_TREES:
            for degree in (1, 0, None):
                self.assert_bad(BadRow, {"row": odd}, lambda: rising(field, UNIT, odd, degree))
                self.assert_bad(BadRow, {"row": odd}, lambda: is_rising(field, UNIT, odd, degree, None))
            self.assert_bad(BadRow, {"row": odd}, lambda: leaves_within(field, UNIT, odd, plane_of("x")))
        for degree in (0, 7, -1, True, None, "1", 1.0, (1, 1), 10 ** 50, [1]):
            self.assert_bad_number("degree", degree, lambda: rising(field, UNIT, ((), ()), degree))
            self.assert_bad_number("degree", degree, lambda: is_rising(field, UNIT, [[], []], degree, None))


class TestIsRising(NoRestCase):

    def test_one_thing_changed(self):
        trees = ((0, (), ()), ())
        for p, q, room, degree in (
            ("1", "0", UNIT, 1), ("x + 1", "y", UNIT, 2), ("x", "y", UNIT, 2), ("0", "0", UNIT, 1), ("x^2", "y - 1/2", UNIT, 1),
        ):
            field = field_of(p, q)
            told = rising(field, room, trees, degree)
            right = 0
            for value in papers.sampled(papers.bent(told), 500):
                expected = papers.is_rising_right(field, room, trees, degree, value)
                right += expected
                self.assertIs(is_rising(field, room, trees, degree, value), expected, vars(value))
            self.assertGreater(right, 0)

    def test_planes(self):
        field, trees = field_of("1 + x", "y"), ((), ())
        for text, degree, expected in (
            ("x", 1, True), ("x", 2, True), ("2*x", 1, True), ("999/1000*x", 1, False), ("x + 1", 1, False), ("x + y", 1, True), ("x - y", 1, False),
            ("x + 1/10*x^2", 1, False), ("x + 1/10*x^2", 2, True), ("0", 1, False), ("-x", 1, False), ("x - 1/2*x^2", 2, False), ("x - 1/10*x^2", 2, True),
        ):
            told = Rising(plane_of(text))
            self.assertIs(is_rising(field, UNIT, trees, degree, told), expected, text)
            self.assertIs(papers.is_rising_right(field, UNIT, trees, degree, told), expected)

    def test_any_values(self):
        field, trees = field_of("x", "y"), ((), ())
        told = rising(field, UNIT, trees, 1)
        for odd in ref.ODD + (Rising, NotRising, told.shares, (told,), Rising(None), NotRising(None), NotRising(()), Rising("x"), Rising(plane_of("x")),
                              NotRising(((0, 0, 1), (0, 0, 0))), NotRising(((0, 0),)), NotRising((None,)), Cover(trees), plane_of("x")):
            expected = papers.is_rising_right(field, UNIT, trees, 1, odd)
            self.assertIs(is_rising(field, UNIT, trees, 1, odd), expected)
        for odd in ref.ODD:
            for shares in (odd, (odd,), told.shares + (odd,), ((odd, 0, 1),), ((0, odd, 1),), ((0, 0, odd),)):
                expected = papers.is_rising_right(field, UNIT, trees, 1, NotRising(shares))
                self.assertIs(is_rising(field, UNIT, trees, 1, NotRising(shares)), expected)
        # The corner at (0, 0) rests: it bars all alone, on each triangle that has it.
        for shares, expected in (
            (((0, 0, 1),), True), (((1, 0, 1),), True), (((0, 0, (1, 2)), (1, 0, (1, 2))), True), (((1, 0, (1, 2)), (0, 0, (1, 2))), False),
            (((0, 0, (1, 2)),), False), (((0, 0, (3, 2)), (1, 0, (-1, 2))), False), (((0, 0, 1), (1, 0, 0)), False), (((0, 1, 1),), False),
            (((0, 0, (2, 2)),), True), (((2, 0, 1),), False), (((0, 3, 1),), False), (((-2, 0, 1),), False), (((True, 0, 1),), False),
            (((0, 0, (1, 2)), (0, 0, (1, 2))), False), ([(0, 0, 1)], True), (([0, 0, 1],), False), (((0, 0, 1, 1),), False),
            (((0, -3, 1),), False), (((10 ** 30, 0, 1),), False), (((0, 0, [1, 1]),), False),
        ):
            self.assertIs(is_rising(field, UNIT, trees, 1, NotRising(shares)), expected, shares)


class TestLeavesWithin(NoRestCase):

    def by_definition(self, field, room, trees, plane):
        one = ref.table(plane.rows)
        many = max(papers.degree_of(one), 1) - 1 + papers.most_degree(field)
        if not papers.are_from_1(papers.along(field, one), many, room, trees):
            return None
        numbers = [number for leaf in papers.leaves(room, trees) for number in ref.triangle_corners(one, leaf, papers.degree_of(one))]
        return ref.pair(max(numbers) - min(numbers))

    def test_times(self):
        plain = ((), ())
        for p, q, room, text, expected in (
            ("1", "0", UNIT, "x", (1, 1)), ("1", "0", UNIT, "3*x + 7", (3, 1)), ("2", "0", UNIT, "1/2*x", (1, 2)), ("2", "0", UNIT, "x", (1, 1)),
            ("1", "0", UNIT, "999/1000*x", None), ("1", "0", UNIT, "1", None), ("1", "0", UNIT, "0", None), ("1", "0", UNIT, "-x", None),
            ("x", "y", RIGHT, "x + y", None), ("x", "y", RIGHT, "x", (2, 1)), ("x", "y", RIGHT, "1/2*x^2", (4, 1)), ("1", "0", UNIT, "x + x^2", (2, 1)),
            ("1", "0", UNIT, "x + y^2 - y", (3, 2)), ("1", "1", UNIT, "x + x*y", (2, 1)), ("0", "0", UNIT, "x", None), ("1", "x^4", UNIT, "x", (1, 1)),
        ):
            field, plane = field_of(p, q), plane_of(text)
            self.assertEqual(self.by_definition(field, room, plain, plane), expected, text)
            self.assertEqual(leaves_within(field, room, plain, plane), expected)

    def test_drawn(self):
        numbers = ref.stream(105)
        found = 0
        for _ in range(60):
            field = Field(Plane(ref.mixed_rows(numbers, next(numbers) % 3, 3)) + 9, Plane(ref.mixed_rows(numbers, next(numbers) % 3, 3)))
            room = ROOMS[next(numbers) % 4]
            trees = tuple(drawn_tree(numbers, 2) for _ in triangles(room))
            plane = plane_of("x") + (1, 40) * Plane(ref.mixed_rows(numbers, next(numbers) % 4, 3))
            told = leaves_within(field, room, trees, plane)
            self.assertEqual(told, self.by_definition(field, room, trees, plane))
            found += told is not None
        self.assertTrue(5 < found < 55, found)

    def test_what_rises_leaves(self):
        field = field_of("1 + x^2", "y")
        told = rising(field, UNIT, ((), ()), 2)
        self.assertIsInstance(told, Rising)
        if told.plane.degree() == 2:
            self.assertIsNotNone(leaves_within(field, UNIT, ((), ()), told.plane))
        self.assertGreaterEqual(min(papers.fractions([slope_along(field, told.plane).at((x, y)) for x in (0, 1) for y in (0, 1)])), 1)


if __name__ == "__main__":
    unittest.main()
