"""Points [46] to [50]: cycles, and barriers that no flow passes."""

import unittest
from fractions import Fraction

import papers
import reference as ref
from flowpapers.cycles import (
    AtMost, Barrier, Changes, Cycle, Factor, Fails, Leaves, NoFactor, Nothing, Unsure,
    barrier, factor_on, is_barrier, is_factor, is_most, is_ring_cycle, most_cycles, ring_cycle,
)
from flowpapers.errors import BadNumber, BadRow, Shared
from flowpapers.fields import Field, turned_back
from flowpapers.norests import Rested, Restless
from flowpapers.planes import Plane, plane_of
from flowpapers.rests import rests
from flowpapers.rooms import Kept, Out, Room, kept
from flowpapers.triangles import Cover, Near, triangles
from test_norests import ODD_TREES, NoRestCase, as_lists, drawn_tree

UNIT = Room(((0, 0), (1, 0), (1, 1), (0, 1)))
RING = Room(((-2, -2), (2, -2), (2, 2), (-2, 2)), (((-1, (-1, 2)), (0, -1), (1, (-1, 2)), (1, (1, 2)), (0, 1), (-1, (1, 2))),))
SMALL = (((-1, 2), (-1, 2)), ((1, 2), (-1, 2)), ((1, 2), (1, 2)), ((-1, 2), (1, 2)))
SQUARE_RING = Room(((-2, -2), (2, -2), (2, 2), (-2, 2)), (SMALL,))
TWO_HOLES = Room(((-4, -4), (4, -4), (4, 4), (-4, 4)), (((-2, 0), (-1, 0), (-2, 1)), ((1, 0), (2, 0), (2, 1))))
ODD_BITS = (-1, 61, True, None, "3", 2.0, (1, 1), [3], 10 ** 100, Fraction(1))


def field_of(p, q):
    return Field(plane_of(p), plane_of(q))


# All flows come to the circle with x * x + y * y = 2, but for the rest at (0, 0).
TO_CIRCLE = field_of("-y + 2*x - x^3 - x*y^2", "x + 2*y - x^2*y - y^3")


class CycleCase(NoRestCase):

    def compare(self, judge, right, values):
        """Whether the judge tells the same as the slow one of all values; how many are right."""
        many = 0
        for value in values:
            expected = right(value)
            many += expected
            self.assertIs(judge(value), expected, vars(value) if hasattr(value, "__dict__") else value)
        return many

    def assert_bad_bits(self, call):
        for bits in ODD_BITS:
            self.assert_bad_number("bits", bits, lambda: call(bits))


class TestRingCycle(CycleCase):

    def check_cycle(self, field, room, is_back):
        told = ring_cycle(field, room, 8)
        self.assertIs(type(told), Cycle)
        self.assertIs(told.is_back, is_back)
        self.assertEqual((type(told.kept), type(told.restless)), (Kept, Restless))
        self.assertTrue(papers.is_ring_cycle_right(field, room, told))
        self.assertIs(is_ring_cycle(field, room, told), True)
        return told

    def test_cycles(self):
        for field in (TO_CIRCLE, Field(3 * TO_CIRCLE.p, 3 * TO_CIRCLE.q), field_of("-1/2*y + x - 1/2*x^3", "1/2*x + y - 1/2*y^3")):
            self.check_cycle(field, SQUARE_RING, False)
            self.check_cycle(turned_back(field), SQUARE_RING, True)

    def test_rests(self):
        field = field_of("x - 1/2*x^3", "y - 1/2*y^3")
        self.assertIs(type(kept(field, SQUARE_RING)), Kept)
        for one in (field, turned_back(field)):
            for bits in (0, 8):
                told = ring_cycle(one, SQUARE_RING, bits)
                self.assertIs(type(told), Rested)
                self.assertEqual(vars(told.rest), vars(rests(one, SQUARE_RING, bits)[0]))

    def test_leaves(self):
        for field, room in (
            (field_of("x", "y"), SQUARE_RING), (field_of("1", "0"), SQUARE_RING), (field_of("-y", "x"), RING), (field_of("1", "x^2 + y^3"), RING),
            # Then no errors of no_rest are raised.
            (field_of("x", "2*x"), SQUARE_RING), (field_of("x", "0"), RING),
        ):
            for bits in (0, 60):
                told = ring_cycle(field, room, bits)
                self.assertIs(type(told), Leaves)
                self.assertEqual((type(told.ahead), type(told.back)), (Out, Out))
                self.assertTrue(papers.is_kept_right(field, room, told.ahead))
                self.assertTrue(papers.is_kept_right(turned_back(field), room, told.back))
                self.assertIs(is_ring_cycle(field, room, told), False)

    def test_errors_in_their_order(self):
        for room, many in ((UNIT, 0), (TWO_HOLES, 2)):
            for field in (TO_CIRCLE, field_of("0", "0")):
                for bits in (5, None, 61):
                    with self.assertRaises(BadNumber) as seen:
                        ring_cycle(field, room, bits)
                    self.assertEqual((seen.exception.what, seen.exception.number), ("holes", many))
                with self.assertRaises(BadNumber) as seen:
                    is_ring_cycle(field, room, None)
                self.assertEqual((seen.exception.what, seen.exception.number), ("holes", many))
        for field in (TO_CIRCLE, field_of("0", "0"), field_of("x", "y")):
            self.assert_bad_bits(lambda bits: ring_cycle(field, SQUARE_RING, bits))

    def test_shared_where_it_is_kept(self):
        # x goes outwards near to the hole, inwards far away.
        for p, q, shared in (("x - 1/2*x^3", "0", "x^3 - 2*x"), ("0", "0", "0")):
            field = field_of(p, q)
            self.assertIs(type(kept(field, SQUARE_RING)), Kept)
            for one in (field, turned_back(field)):
                with self.assertRaises(Shared) as seen:
                    ring_cycle(one, SQUARE_RING, 5)
                self.assertEqual(seen.exception.plane, plane_of(shared))

    def test_one_thing_changed(self):
        for field in (TO_CIRCLE, turned_back(TO_CIRCLE)):
            told = ring_cycle(field, SQUARE_RING, 4)
            values = papers.sampled(papers.bent(told, 5), 250) + [
                Cycle(not told.is_back, told.kept, told.restless), Cycle(int(told.is_back), told.kept, told.restless),
                Cycle(told.is_back, kept(turned_back(TO_CIRCLE), SQUARE_RING), told.restless), Cycle(told.is_back, told.restless, told.kept),
                Cycle(told.is_back, told.kept, Restless(told.restless.trees, told.restless.pairs[1:])),
            ]
            many = self.compare(
                lambda value: is_ring_cycle(field, SQUARE_RING, value), lambda value: papers.is_ring_cycle_right(field, SQUARE_RING, value), values)
            self.assertGreater(many, 0)
            self.assertIs(is_ring_cycle(turned_back(field), SQUARE_RING, told), False)

    def test_any_values(self):
        told = ring_cycle(TO_CIRCLE, SQUARE_RING, 4)
        for odd in ref.ODD + (Cycle, (told,), told.kept, told.restless, Leaves(told.kept, told.kept), Cycle(None, None, None), Rested(told)):
            self.assertIs(is_ring_cycle(TO_CIRCLE, SQUARE_RING, odd), False)

    def test_objects_keep_what_they_are_given(self):
        row = [1, [2]]
        objects = (Leaves(row, row), Cycle(row, row, row), AtMost(row, row, row), Changes(row, row), Factor(row), NoFactor(row),
                   Barrier(row, row, row), Fails(row, row), Unsure(row))
        row.append(3)
        for told in objects:
            for value in vars(told).values():
                self.assertEqual(value, (1, [2]))
            self.assertFalse(told == type(told)(*vars(told).values()))
        self.assertEqual(vars(Nothing()), {})
        self.assertFalse(Nothing() == Nothing())


class TestMostCycles(CycleCase):

    def check(self, field, room, factor, bits, expected=None):
        told = most_cycles(field, room, factor, bits)
        if expected is not None:
            self.assertIs(type(told), expected)
        self.assertIs(is_most(field, room, factor, told), type(told) is not Near)
        self.assertIs(papers.is_most_right(field, room, factor, told), type(told) is not Near)
        return told

    def test_each_answer(self):
        for p, q, factor, room, expected, sign in (
            ("x", "y", "1", UNIT, AtMost, 1), ("-x", "-y", "1", TWO_HOLES, AtMost, -1), ("x", "y", "-5", RING, AtMost, -1),
            ("y", "-x", "1", RING, Nothing, 0), ("y", "-x", "x^2 + y^2", RING, Nothing, 0), ("y", "-x", "0", UNIT, Nothing, 0),
            ("0", "0", "x", UNIT, Nothing, 0), ("x^2", "0", "1", RING, Changes, 0), ("x^2", "0", "1", UNIT, AtMost, 1),
            ("x^3", "y", "1", RING, AtMost, 1), ("-x^3", "-y^3", "1", RING, AtMost, -1), ("x", "-y", "x", UNIT, AtMost, 1),
            ("x", "-y", "x", RING, Changes, 0), ("x*y", "0", "1", RING, Changes, 0),
        ):
            field = field_of(p, q)
            for bits in (0, 6, 12):
                told = self.check(field, room, plane_of(factor), bits, expected)
                if expected is AtMost:
                    self.assertEqual((told.many, told.sign, type(told.cover)), (len(room.holes), sign, Cover))
                if expected is Changes:
                    for place in (told.above, told.below):
                        self.assertTrue(papers.is_strict_row(place, 2) and room.has(place))

    def test_near(self):
        # The stream is (x - 1/3) ** 2 + (y - 1/5) ** 2, and a little less.
        for less, bits, answers in (((0, 1), 4, (Near, AtMost)), ((1, 100), 3, (Near, Changes)), ((1, 100), 12, (Changes,)), ((-1, 10 ** 9), 3, (Near, AtMost))):
            p = plane_of("1/3*x^3 - 1/3*x^2 + 1/9*x + x*y^2 - 2/5*x*y + 1/25*x") - less * plane_of("x")
            told = self.check(Field(p, plane_of("0")), UNIT, plane_of("1"), bits)
            self.assertIn(type(told), answers)
            told = self.check(Field(-p, plane_of("0")), UNIT, plane_of("1"), bits)
            self.assertIn(type(told), answers)

    def test_drawn(self):
        numbers = ref.stream(111)
        found = {}
        for _ in range(80):
            field = Field(*[Plane(ref.mixed_rows(numbers, next(numbers) % 3, 3)) for _ in range(2)])
            room = (UNIT, RING, TWO_HOLES)[next(numbers) % 3]
            told = self.check(field, room, Plane(ref.mixed_rows(numbers, next(numbers) % 2, 3)) + next(numbers) % 20, 6)
            found[type(told)] = found.get(type(told), 0) + 1
        self.assertTrue(found[AtMost] > 8 and found[Changes] > 8, found)

    def test_one_thing_changed(self):
        for p, q, factor, room in (("x", "y", "1", UNIT), ("x^2", "0", "1", RING), ("-x^3 - x", "-y", "1", TWO_HOLES), ("y", "-x", "1", UNIT)):
            field, plane = field_of(p, q), plane_of(factor)
            told = most_cycles(field, room, plane, 5)
            values = papers.sampled(papers.bent(told), 500) + [told, Nothing(), Changes((1, 1), (0, 0)), AtMost(len(room.holes), 1, Cover(()))]
            many = self.compare(lambda value: is_most(field, room, plane, value), lambda value: papers.is_most_right(field, room, plane, value), values)
            self.assertGreater(many, 0)

    def test_any_values(self):
        field, one = field_of("x^2", "0"), plane_of("1")
        for odd in ref.ODD + (Changes, Nothing, AtMost, Near(), Nothing(), Changes(None, None), AtMost(None, None, None), AtMost(0, 1, Cover(((), ())))):
            self.assertIs(is_most(field, RING, one, odd), False)
        for above, below, expected in (
            ((2, 0), (-2, 0), True), ((2, (0, 5)), ((-4, 2), 0), True), ((-2, 0), (2, 0), False), ((3, 0), (-2, 0), False), ((2, 0), (-3, 0), False),
            ((0, 2), (-2, 0), False), ((2, 0), (0, 2), False), ([2, 0], [-2, 0], True), (([2, 1], 0), (-2, 0), False), ((2, 0, 0), (-2, 0), False),
            (((1, 2), 0), (-2, 0), False), ((True, 0), (-2, 0), False),
        ):
            self.assertIs(is_most(field, RING, one, Changes(above, below)), expected, (above, below))
        flat = field_of("y", "x")
        self.assertIs(is_most(flat, RING, one, Nothing()), True)
        for odd in ref.ODD + (AtMost(1, 1, Cover(((),) * len(triangles(RING)))), Changes((2, 0), (-2, 0)), Nothing):
            self.assertIs(is_most(flat, RING, one, odd), False)

    def test_bad_bits(self):
        for p, q in (("x", "y"), ("0", "0"), ("x^2", "y")):
            self.assert_bad_bits(lambda bits: most_cycles(field_of(p, q), UNIT, plane_of("1"), bits))


class TestFactorOn(CycleCase):

    def check(self, field, room, trees, degree, expected=None):
        told = factor_on(field, room, trees, degree)
        self.assertTrue(papers.is_factor_right(field, room, trees, degree, told))
        self.assertIs(is_factor(field, room, trees, degree, told), True)
        if expected is not None:
            self.assertIs(type(told), expected)
        return told

    def test_known(self):
        plain = ((), ())
        for p, q, room, degree, expected in (
            ("x", "y", UNIT, 0, Factor), ("-x", "-y", UNIT, 0, Factor), ("y", "-x", UNIT, 0, NoFactor), ("x", "-y", UNIT, 0, NoFactor),
            ("1", "0", UNIT, 0, NoFactor), ("1", "0", UNIT, 1, Factor), ("0", "0", UNIT, 0, NoFactor), ("0", "0", UNIT, 6, NoFactor),
            ("x", "-y", Room(((1, 1), (2, 1), (2, 2), (1, 2))), 1, Factor), ("x", "-y", Room(((-1, -1), (1, -1), (1, 1), (-1, 1))), 3, NoFactor),
            ("x^4", "0", UNIT, 2, NoFactor), ("x^4 + 1", "y", UNIT, 1, Factor), ("3", "-2", UNIT, 3, Factor),
        ):
            told = self.check(field_of(p, q), room, plain, degree, expected)
            if expected is NoFactor:
                for row in told.shares:
                    self.assertEqual((type(row), type(row[0]), type(row[1]), row[2]), (tuple, int, int, ref.pair(Fraction(*row[2]))))
        trees = ((),) * len(triangles(SQUARE_RING))
        self.check(TO_CIRCLE, SQUARE_RING, trees, 1)

    def test_lists(self):
        trees = ((0, (), (1, (), ())), ())
        field = field_of("x", "-y + 1")
        for other in (list(trees), as_lists(trees), [trees[0], []]):
            told = self.check(field, UNIT, other, 1)
            self.assertEqual(type(told), type(factor_on(field, UNIT, trees, 1)))
            self.assertIs(is_factor(field, UNIT, trees, 1, told), True)

    def test_drawn(self):
        numbers = ref.stream(112)
        found = {Factor: 0, NoFactor: 0}
        for _ in range(45):
            field = Field(*[Plane(ref.mixed_rows(numbers, next(numbers) % 4, 4)) for _ in range(2)])
            room = (UNIT, Room(((0, 0), (4, 1), (1, 3))), RING)[next(numbers) % 3]
            trees = tuple(drawn_tree(numbers, 1) for _ in triangles(room))
            found[type(self.check(field, room, trees, next(numbers) % 3))] += 1
        self.assertTrue(min(found.values()) > 8, found)

    def test_outermost_sizes(self):
        numbers = ref.stream(113)
        fine = (0, (1, (2, (), ()), (0, (), ())), (2, (1, (), ()), (2, (), ())))
        trees = (fine,) * len(triangles(TWO_HOLES))
        self.assertTrue(30 < len(papers.leaves(TWO_HOLES, trees)))
        trees = (fine,) * 4 + ((),) * (len(triangles(TWO_HOLES)) - 4)
        for much in (0, 50):
            field = Field(*[Plane(ref.mixed_rows(numbers, 4, 9)) + much * plane_of(letter) for letter in "xy"])
            told = factor_on(field, TWO_HOLES, trees, 3)
            self.assertIs(is_factor(field, TWO_HOLES, trees, 3, told), True)

    def test_errors_in_their_order(self):
        field = field_of("1", "0")
        for odd in ODD_TREES:
            for degree in (1, -1, None):
                self.assert_bad(BadRow, {"row": odd}, lambda: factor_on(field, UNIT, odd, degree))
                self.assert_bad(BadRow, {"row": odd}, lambda: is_factor(field, UNIT, odd, degree, None))
        for degree in (7, -1, True, None, "1", 1.0, (1, 1), 10 ** 50, [1]):
            self.assert_bad_number("degree", degree, lambda: factor_on(field, UNIT, ((), ()), degree))
            self.assert_bad_number("degree", degree, lambda: is_factor(field, UNIT, [[], []], degree, None))

    def test_one_thing_changed(self):
        trees = ((0, (), ()), ())
        for p, q, degree in (("x", "y", 0), ("1", "0", 1), ("y", "-x", 1), ("x^2", "-2*x*y", 1)):
            field = field_of(p, q)
            told = factor_on(field, UNIT, trees, degree)
            values = papers.sampled(papers.bent(told), 400)
            many = self.compare(
                lambda value: is_factor(field, UNIT, trees, degree, value),
                lambda value: papers.is_factor_right(field, UNIT, trees, degree, value), values)
            self.assertGreater(many, 0)

    def test_any_values(self):
        field, trees = field_of("y", "-x"), ((), ())
        for odd in ref.ODD + (Factor, NoFactor, Factor(None), NoFactor(None), NoFactor(()), Factor(plane_of("1")), Cover(trees), plane_of("x")):
            self.assertIs(is_factor(field, UNIT, trees, 1, odd), False)
        for odd in ref.ODD:
            for shares in (odd, (odd,), ((odd, 0, 1),), ((0, odd, 1),), ((0, 0, odd),)):
                expected = papers.is_factor_right(field, UNIT, trees, 0, NoFactor(shares))
                self.assertIs(is_factor(field, UNIT, trees, 0, NoFactor(shares)), expected)


class TestBarrier(CycleCase):

    ROOM = Room(((-4, -4), (4, -4), (4, 4), (-4, 4)))
    START = Room(((-1, -1), (0, -1), (0, 0), (-1, 0)))
    GOAL = Room(((2, 2), (3, 2), (2, 3)))

    def check(self, field, room, plane, factor, start, goal, e, bits, expected=None):
        told = barrier(field, room, plane, factor, start, goal, e, bits)
        if expected is not None:
            self.assertEqual((type(told), getattr(told, "which", None)), expected)
        places = dict(zip(("start", "goal", "inside"), zip(papers.barrier_planes(field, plane, factor, e), (start, goal, room))))
        if isinstance(told, Barrier):
            self.assertTrue(papers.is_barrier_right(field, room, plane, factor, start, goal, e, told))
        elif isinstance(told, Fails):
            one, place = places[told.which]
            self.assertTrue(papers.is_strict_row(told.point, 2) and place.has(told.point))
            self.assertLess(one.at(told.point)[0], 0)
        else:
            self.assertIs(type(told), Unsure)
        self.assertIs(is_barrier(field, room, plane, factor, start, goal, e, told), isinstance(told, Barrier))
        return told

    def test_known(self):
        inwards, none = field_of("-x", "-y"), plane_of("0")
        rising = plane_of("x + y - 1")
        for field, plane, factor, e, expected in (
            (inwards, rising, none, 1, (Fails, "inside")), (inwards, rising, none, (7, 2), (Fails, "goal")), (inwards, rising, plane_of("-1"), 1, (Barrier, None)),
            (inwards, rising + 2, plane_of("-1"), 1, (Fails, "start")), (field_of("0", "0"), rising, none, (1, 10), (Barrier, None)),
            (field_of("1", "0"), rising, none, 1, (Fails, "inside")), (field_of("-1", "0"), rising, none, 3, (Barrier, None)),
            (field_of("0", "0"), plane_of("-1"), none, 1, (Fails, "goal")), (field_of("0", "0"), plane_of("1"), none, 1, (Fails, "start")),
            (field_of("x", "y"), plane_of("x^2 + y^2 - 3"), none, 1, (Fails, "inside")), (inwards, plane_of("x^2 + y^2 - 3"), none, 1, (Barrier, None)),
        ):
            for bits in (0, 6, 12):
                self.check(field, self.ROOM, plane, factor, self.START, self.GOAL, e, bits, expected)

    def test_unsure(self):
        # A circle that just touches the start, at a place that no halving comes to.
        touch = plane_of("x^2 + y^2 + 2/3*x + 2/5*y + 34/225")
        self.assertEqual(touch.at(((-1, 3), (-1, 5))), (0, 1))
        still, zero = field_of("0", "0"), plane_of("0")
        for bits in (0, 4, 12):
            self.check(still, self.ROOM, -touch, zero, self.START, self.GOAL, 1, bits, (Unsure, "start"))
            self.check(still, self.ROOM, -touch - (1, 2 ** bits), zero, self.START, self.GOAL, 1, bits)

    def test_unsure_goal_and_inside(self):
        still, zero = field_of("0", "0"), plane_of("0")
        # -1 or less in the start, 1 + (x - 7/3) ** 2 + (y - 11/5) ** 2 in the goal.
        bowl = plane_of("x^2 + y^2 - 14/3*x - 22/5*y + 2314/225")
        factor = plane_of("x + y - 1")
        plane = bowl * factor
        self.assertLess(plane.at((0, 0))[0], 0)
        self.check(still, self.ROOM, plane, zero, self.START, self.GOAL, (1, 10 ** 9), 0, (Unsure, "goal"))
        # B' is -(x - 1/3) ** 2 - (y - 1/5) ** 2.
        slope = plane_of("-1/3*x^3 + 1/3*x^2 - 1/9*x - x*y^2 + 2/5*x*y - 1/25*x")
        goal = Room(((-4, 2), (-3, 2), (-3, 3)))
        start = Room(((2, 2), (3, 2), (2, 3)))
        self.check(field_of("1", "0"), self.ROOM, slope, zero, start, goal, 1, 8, (Unsure, "inside"))

    def test_constants_to_60_bits(self):
        for bits in (13, 60):
            self.check(field_of("0", "0"), self.ROOM, plane_of("-1"), plane_of("0"), self.START, self.GOAL, 1, bits, (Fails, "goal"))
            self.check(field_of("0", "0"), self.ROOM, plane_of("0"), plane_of("0"), self.START, self.GOAL, (1, 10 ** 50), bits)

    def test_errors_in_their_order(self):
        row = (field_of("1", "0"), self.ROOM, plane_of("x"), plane_of("0"), self.START, self.GOAL)
        for e in (0, -1, (0, 5), (-1, 7), (1, 0), (1, -1), True, None, "1", 1.0, (1,), (1, 2, 3), [], [0, 1], Fraction(1), ((1, 1), 1)):
            for bits in (3, None, 61):
                self.assert_bad_number("e", e, lambda: barrier(*row, e, bits))
            self.assert_bad_number("e", e, lambda: is_barrier(*row, e, None))
        self.assert_bad_bits(lambda bits: barrier(*row, (1, 3), bits))
        self.assert_bad_bits(lambda bits: barrier(*row, [1, 3], bits))

    def test_one_thing_changed(self):
        field, plane, factor = field_of("-x", "-y"), plane_of("x + y - 1"), plane_of("-1")
        told = barrier(field, self.ROOM, plane, factor, self.START, self.GOAL, 1, 5)
        row = (field, self.ROOM, plane, factor, self.START, self.GOAL, 1)
        values = papers.sampled(papers.bent(told), 500) + [
            Barrier(told.goal, told.start, told.inside), Barrier(told.inside, told.goal, told.start), Barrier(told.start, told.start, told.inside),
        ]
        many = self.compare(lambda value: is_barrier(*row, value), lambda value: papers.is_barrier_right(*row, value), values)
        self.assertGreater(many, 0)
        # Each Cover by itself.
        for name in ("start", "goal", "inside"):
            for odd in ref.ODD + (Cover(()), Cover(None), Cover(((0, (), ()),) * 9), told.start.trees):
                other = Barrier(*[odd if one == name else getattr(told, one) for one in ("start", "goal", "inside")])
                self.assertIs(is_barrier(*row, other), False)
        self.assertIs(is_barrier(*row[:6], 4, told), False)
        self.assertIs(is_barrier(*row[:6], [6, 2], told), True)
        for odd in ref.ODD + (Barrier, (told,), Fails("start", (0, 0)), Unsure("start"), told.start, Barrier(None, None, None)):
            self.assertIs(is_barrier(*row, odd), False)


if __name__ == "__main__":
    unittest.main()
