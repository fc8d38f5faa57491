"""Points [51] to [56]: where all flows of a box are after a while."""

import unittest
from fractions import Fraction
from math import ceil, floor

import papers
import reference as ref
from flowpapers.errors import BadNumber, BadRow
from flowpapers.fields import Field
from flowpapers.planes import Plane, plane_of
from flowpapers.tubes import Lost, Tube, after, ends_in, first_room, is_tube, misses, range_on, stays, tube

BOX = ((0, 1), ((1, 2), (3, 4)))
POINT = ((2, 2), (-1, -1))
ODD_BOXES = tuple(odd for odd in ref.ODD) + (
    (1, 2), ((1, 2),), ((1, 2), (3, 4), (5, 6)), ((2, 1), (0, 0)), ((0, 0), (1, (1, 2))), ((0, 1), (0, (-1, 10 ** 30))), ((0, 1, 2), (0, 1)),
    ((0, 1), (0, True)), ((0, 1), (0, None)), ((0, 1), "01"), ((0, 1), ((1, 0), 2)), {(0, 1): 1, (2, 3): 4}, "abcd", ((0, 1), (0, 1.0)), (((0, 1),), ((0, 1),)),
)
ODD_BITS = (-1, 61, True, None, "3", 2.0, (1, 1), [3], 10 ** 100, Fraction(1))
ODD_TIMES = (0, -1, (0, 3), (-1, 2), (1, 0), (1, -1), True, None, "1", 1.0, (1, 2, 3), [], [0, 1], Fraction(1))
ODD_COUNTS = (0, 21, -1, True, None, "1", 1.0, (1, 1), 10 ** 30)
ODD_ORDERS = (0, 7, -1, True, None, "1", 1.0, (1, 1), 10 ** 30)


def field_of(p, q):
    return Field(plane_of(p), plane_of(q))


STILL = field_of("0", "0")
TURN = field_of("-y", "x")


class TubeCase(unittest.TestCase):

    def assert_bad(self, kind, fields, call):
        with self.assertRaises(kind) as seen:
            call()
        for name, value in fields.items():
            found = getattr(seen.exception, name)
            self.assertTrue(found is value or name == "what" and found == value, (found, value))

    def assert_told_box(self, box):
        self.assertEqual((type(box), len(box)), (tuple, 2))
        for pair in box:
            self.assertEqual((type(pair), len(pair)), (tuple, 2))
            for number in pair:
                self.assertEqual((type(number), number), (tuple, ref.pair(Fraction(*number))))

    def drawn_box(self, numbers, size=4):
        pairs = []
        for _ in range(2):
            low, wide = Fraction(*ref.mixed_ratio(numbers, size)), Fraction(next(numbers) % 5, 1 + next(numbers) % 4)
            pairs.append((ref.pair(low), ref.pair(low + wide)))
        return tuple(pairs)


class TestRangeOn(TubeCase):

    def test_by_the_table(self):
        numbers = ref.stream(121)
        for k in range(80):
            plane = Plane(ref.mixed_rows(numbers, next(numbers) % 6, (3, 9, 10 ** 30)[k % 3]))
            box = self.drawn_box(numbers)
            told = range_on(plane, box)
            self.assert_told_box((told, told))
            expected = papers.range_of(ref.table(plane.rows), papers.box_of(box))
            self.assertEqual(told, tuple(ref.pair(number) for number in expected))
            self.assertEqual(range_on(plane, [[list(number) for number in pair] for pair in box]), told)
            # The values are from the one to the other.
            (a, b), (c, d) = papers.box_of(box)
            for s in range(3):
                for t in range(3):
                    value = ref.value(ref.table(plane.rows), a + (b - a) * s / 2, c + (d - c) * t / 2)
                    self.assertTrue(Fraction(*told[0]) <= value <= Fraction(*told[1]))

    def test_known(self):
        for text, box, low, high in (
            ("0", BOX, 0, 0), ("-7/3", BOX, Fraction(-7, 3), Fraction(-7, 3)), ("x", BOX, 0, 1), ("x*y", BOX, 0, Fraction(3, 4)), ("x^2 - x", BOX, Fraction(-1, 2), 0),
            ("x^2", ((-1, 1), (0, 0)), -1, 1), ("x*y", ((-1, 1), (-2, 3)), -3, 3), ("x^2*y", POINT, -4, -4), ("y^3", ((0, 0), (-1, 1)), -1, 1),
            ("x^2 + y^2", ((-1, 1), (-1, 1)), -2, 2), ("x^4*y", ((2, 2), (0, 3)), 0, 48),
        ):
            self.assertEqual(range_on(plane_of(text), box), (ref.pair(low), ref.pair(high)), text)

    def test_bad_boxes(self):
        for odd in ODD_BOXES:
            self.assert_bad(BadRow, {"row": odd}, lambda: range_on(plane_of("x"), odd))


class TestRooms(TubeCase):

    def test_stays(self):
        for field, box, time, room, expected in (
            (STILL, BOX, 1, BOX, True), (STILL, BOX, 1, ((0, 1), (0, 1)), True), (STILL, BOX, 1, ((0, 1), (0, (1, 2))), False),
            (field_of("1", "0"), BOX, 1, ((0, 2), (0, 1)), True), (field_of("1", "0"), BOX, 1, ((0, (1999, 1000)), (0, 1)), False),
            (field_of("-1", "0"), BOX, (1, 2), (((-1, 2), 1), (0, 1)), True), (field_of("-1", "0"), BOX, (1, 2), (((-499, 1000), 1), (0, 1)), False),
            (field_of("0", "y"), BOX, (1, 4), ((0, 1), ((1, 2), 1)), True), (field_of("0", "y"), BOX, (1, 4), ((0, 1), ((1, 2), (9, 10))), False),
            # What moves upwards alone needs no room below.
            (field_of("0", "y"), BOX, 1, ((0, 1), ((1, 2), 100)), False), (field_of("0", "1"), BOX, 1, ((0, 1), ((1, 2), (7, 4))), True),
            (field_of("x - 3", "0"), ((2, 2), (0, 0)), 1, ((1, 2), (0, 0)), False), (field_of("x - 3", "0"), ((2, 2), (0, 0)), (1, 2), ((1, 2), (0, 0)), True),
        ):
            self.assertIs(stays(field, box, time, room), expected)
            self.assertIs(stays(field, [list(pair) for pair in box], time, [list(pair) for pair in room]), expected)

    def test_stays_by_the_sums(self):
        numbers = ref.stream(122)
        found = 0
        for _ in range(120):
            field = Field(*[Plane(ref.mixed_rows(numbers, next(numbers) % 4, 3)) for _ in range(2)])
            box = self.drawn_box(numbers)
            wide = next(numbers) % 4
            room = tuple((ref.pair(Fraction(*low) - wide), ref.pair(Fraction(*high) + wide)) for low, high in box)
            time = (1, 1 + next(numbers) % 40)
            expected = papers.does_stay(field, papers.box_of(box), Fraction(*time), papers.box_of(room))
            self.assertIs(stays(field, box, time, room), expected)
            found += expected
        self.assertTrue(15 < found < 105, found)

    def first_by_the_sums(self, field, box, time, bits):
        room, start, step, gap = papers.box_of(box), papers.box_of(box), ref.fraction(time), Fraction(1, 2 ** bits)
        for _ in range(61):
            if papers.does_stay(field, start, step, room):
                return tuple(tuple(ref.pair(number) for number in pair) for pair in room)
            if any(abs(number) > 1000 for pair in room for number in pair):
                return None
            ends = []
            for (low, high), plane in zip(start, (field.p, field.q)):
                down, up = papers.range_of(ref.table(plane.rows), room)
                ends.append((floor((low + step * min(0, down)) / gap) * gap, ceil((high + step * max(0, up)) / gap) * gap))
            room = tuple(ends)
        return None

    def test_first_rooms(self):
        numbers = ref.stream(123)
        none = 0
        for _ in range(70):
            field = Field(*[Plane(ref.mixed_rows(numbers, next(numbers) % 4, 2)) for _ in range(2)])
            box, time, bits = self.drawn_box(numbers, 3), (1, 1 + next(numbers) % 30), (0, 1, 3, 10, 60)[next(numbers) % 5]
            told = first_room(field, box, time, bits)
            self.assertEqual(told, self.first_by_the_sums(field, box, time, bits))
            none += told is None
            if told is not None:
                self.assert_told_box(told)
                self.assertIs(stays(field, box, time, told), True)
        self.assertTrue(5 < none < 60, none)

    def test_known_first_rooms(self):
        self.assertEqual(first_room(STILL, BOX, 5, 0), (((0, 1), (1, 1)), ((1, 2), (3, 4))))
        self.assertEqual(first_room(field_of("1/3", "0"), BOX, 1, 0), (((0, 1), (2, 1)), ((0, 1), (1, 1))))
        self.assertEqual(first_room(field_of("1/3", "0"), BOX, 1, 2), (((0, 1), (3, 2)), ((1, 2), (3, 4))))
        self.assertEqual(first_room(field_of("-1/3", "0"), BOX, [2, 2], 3), (((-3, 8), (1, 1)), ((1, 2), (3, 4))))
        # y' = y: with a step of 1 no room is great enough, with half of it one is.
        self.assertIsNone(first_room(field_of("0", "y"), BOX, 1, 4))
        self.assertIsNotNone(first_room(field_of("0", "y"), BOX, (1, 2), 4))
        # Beyond 1,000, behind a W_n that is and one that is not.
        self.assertIsNone(first_room(field_of("x", "0"), ((1, 1), (0, 0)), 1, 0))
        self.assertEqual(first_room(field_of("2000", "0"), ((1, 1), (0, 0)), 1, 0), (((1, 1), (2001, 1)), ((0, 1), (0, 1))))
        self.assertIsNone(first_room(field_of("2000 + 1/2*x", "0"), ((1, 1), (0, 0)), 1, 0))

    def test_errors_in_their_order(self):
        for odd in ODD_BOXES:
            for time in (1, 0, None):
                self.assert_bad(BadRow, {"row": odd}, lambda: stays(STILL, odd, time, BOX))
                self.assert_bad(BadRow, {"row": odd}, lambda: stays(STILL, odd, time, None))
                self.assert_bad(BadRow, {"row": odd}, lambda: stays(STILL, BOX, time, odd))
                self.assert_bad(BadRow, {"row": odd}, lambda: first_room(STILL, odd, time, None))
        for time in ODD_TIMES:
            self.assert_bad(BadNumber, {"what": "time", "number": time}, lambda: stays(STILL, BOX, time, BOX))
            for bits in (3, None):
                self.assert_bad(BadNumber, {"what": "time", "number": time}, lambda: first_room(STILL, BOX, time, bits))
        for bits in ODD_BITS:
            self.assert_bad(BadNumber, {"what": "bits", "number": bits}, lambda: first_room(STILL, BOX, (1, 7), bits))


class TestAfter(TubeCase):

    def by_the_sums(self, field, box, time, room, order, bits):
        start, place, step, gap = papers.box_of(box), papers.box_of(room), ref.fraction(time), Fraction(1, 2 ** bits)
        if not papers.does_stay(field, start, step, place):
            return None
        ends = papers.ends_behind(field, start, step, place, order)
        return tuple((ref.pair(floor(low / gap) * gap), ref.pair(ceil(high / gap) * gap)) for low, high in ends)

    def test_by_the_sums(self):
        numbers = ref.stream(124)
        none = 0
        for k in range(60):
            degree = next(numbers) % 4
            field = Field(*[Plane(ref.mixed_rows(numbers, degree, 2)) for _ in range(2)])
            box, time, bits = self.drawn_box(numbers, 3), (1, 1 + next(numbers) % 30), (0, 3, 10, 60)[k % 4]
            room = first_room(field, box, time, 5) or ((-5, 5), (-5, 5))
            order = 1 + next(numbers) % (6 if degree < 2 else 3)
            told = after(field, box, time, room, order, bits)
            self.assertEqual(told, self.by_the_sums(field, box, time, room, order, bits))
            none += told is None
            if told is not None:
                self.assert_told_box(told)
        self.assertTrue(3 < none < 50, none)

    def test_known_flows(self):
        # x' = 1, and x' = x: at the time 1/2 between 8/5 and 5/3 times what it was.
        self.assertEqual(after(field_of("1", "0"), BOX, (1, 3), ((0, 2), (0, 1)), 2, 60)[1], ((1, 2), (3, 4)))
        told = after(field_of("1", "0"), BOX, (1, 2), ((0, 2), (0, 1)), 3, 10)
        self.assertEqual(told, (((1, 2), (3, 2)), ((1, 2), (3, 4))))
        growing = field_of("x", "0")
        room = first_room(growing, ((1, 1), (0, 0)), (1, 2), 20)
        for order in range(1, 7):
            low, high = after(growing, ((1, 1), (0, 0)), (1, 2), room, order, 20)[0]
            # The square root of e, 1.6487212707..
            self.assertLessEqual(Fraction(*low), Fraction(16487212708, 10 ** 10))
            self.assertGreaterEqual(Fraction(*high), Fraction(16487212707, 10 ** 10))
            if order == 6:
                self.assertLess(Fraction(*high) - Fraction(*low), Fraction(1, 10000))
        # A turn keeps x * x + y * y: some place of the circle is in the box.
        place = ((1, 1), (0, 0))
        room = first_room(TURN, place, (1, 10), 30)
        (a, b), (c, d) = papers.box_of(after(TURN, place, (1, 10), room, 4, 30))
        self.assertTrue(a * a + c * c <= 1 <= b * b + d * d)
        # cos(1/10) and sin(1/10).
        self.assertTrue(a <= Fraction(99500416527803, 10 ** 14) <= b and c <= Fraction(9983341664683, 10 ** 14) <= d)

    def test_none(self):
        self.assertIsNone(after(field_of("1", "0"), BOX, 1, BOX, 1, 0))
        self.assertIsNone(after(field_of("0", "y"), BOX, 1, ((0, 1), (0, 3)), 6, 60))

    def test_errors_in_their_order(self):
        for odd in ODD_BOXES:
            self.assert_bad(BadRow, {"row": odd}, lambda: after(STILL, odd, 0, None, None, None))
            self.assert_bad(BadRow, {"row": odd}, lambda: after(STILL, BOX, None, odd, 0, 61))
        for time in ODD_TIMES:
            self.assert_bad(BadNumber, {"what": "time", "number": time}, lambda: after(STILL, BOX, time, BOX, 0, None))
            self.assert_bad(BadNumber, {"what": "time", "number": time}, lambda: after(STILL, BOX, time, BOX, 1, 1))
        for order in ODD_ORDERS:
            for bits in (1, None):
                self.assert_bad(BadNumber, {"what": "order", "number": order}, lambda: after(STILL, BOX, 1, BOX, order, bits))
                self.assert_bad(BadNumber, {"what": "order", "number": order}, lambda: after(field_of("1", "0"), BOX, 1, BOX, order, bits))
        for bits in ODD_BITS:
            self.assert_bad(BadNumber, {"what": "bits", "number": bits}, lambda: after(STILL, BOX, 1, BOX, 1, bits))
            self.assert_bad(BadNumber, {"what": "bits", "number": bits}, lambda: after(field_of("1", "0"), BOX, 1, BOX, 1, bits))


class TestTube(TubeCase):

    def check(self, field, box, time, count, order, bits):
        told = tube(field, box, time, count, order, bits)
        place, rooms, boxes = box, [], []
        for k in range(count):
            room = first_room(field, place, time, bits)
            if room is None:
                self.assertIs(type(told), Lost)
                self.assertEqual((told.index, told.boxes), (k + 1, tuple(boxes)))
                self.assertIs(is_tube(field, box, time, order, told), False)
                return told
            place = after(field, place, time, room, order, bits)
            rooms.append(room)
            boxes.append(place)
        self.assertIs(type(told), Tube)
        self.assertEqual((told.rooms, told.boxes), (tuple(rooms), tuple(boxes)))
        for one in told.rooms + told.boxes:
            self.assert_told_box(one)
        self.assertIs(is_tube(field, box, time, order, told), True)
        self.assertTrue(papers.is_tube_right(field, box, time, order, told))
        return told

    def test_known(self):
        told = self.check(field_of("1", "0"), BOX, (1, 2), 4, 2, 5)
        self.assertEqual(told.boxes[-1], (((2, 1), (3, 1)), ((1, 2), (3, 4))))
        self.assertEqual(told.rooms[1], (((1, 2), (2, 1)), ((1, 2), (3, 4))))
        told = self.check(field_of("x^2", "0"), ((1, 1), (0, 0)), (1, 5), 20, 3, 20)
        self.assertIs(type(told), Lost)
        # It goes beyond all bounds at the time 1.
        self.assertTrue(1 < told.index <= 6, told.index)
        self.assertIs(type(self.check(field_of("0", "y"), BOX, 1, 3, 2, 5)), Lost)
        self.assertEqual(self.check(field_of("0", "y"), BOX, 1, 3, 2, 5).index, 1)
        self.check(TURN, ((1, 1), (0, (1, 10))), (1, 10), 20, 4, 30)

    def test_drawn(self):
        numbers = ref.stream(125)
        found = {Tube: 0, Lost: 0}
        for _ in range(40):
            degree = next(numbers) % 4
            field = Field(*[Plane(ref.mixed_rows(numbers, degree, 2)) for _ in range(2)])
            box, time = self.drawn_box(numbers, 2), (1, 5 + next(numbers) % 40)
            found[type(self.check(field, box, time, 1 + next(numbers) % 3, 1 + next(numbers) % 3, (0, 3, 20, 60)[next(numbers) % 4]))] += 1
        self.assertTrue(min(found.values()) > 5, found)

    def test_outermost_sizes(self):
        field = field_of("1/10*y + 1/100*x^2 - 1/100*x^3", "-1/10*x - 1/50*x*y^2")
        told = tube(field, ((1, (11, 10)), (0, (1, 10))), (1, 4), 20, 4, 60)
        self.assertIs(type(told), Tube)
        self.assertIs(is_tube(field, ((1, (11, 10)), (0, (1, 10))), (1, 4), 4, told), True)

    def test_errors_in_their_order(self):
        for odd in ODD_BOXES:
            self.assert_bad(BadRow, {"row": odd}, lambda: tube(STILL, odd, None, None, None, None))
            self.assert_bad(BadRow, {"row": odd}, lambda: is_tube(STILL, odd, None, None, None))
        for time in ODD_TIMES:
            self.assert_bad(BadNumber, {"what": "time", "number": time}, lambda: tube(STILL, BOX, time, 0, 0, None))
            self.assert_bad(BadNumber, {"what": "time", "number": time}, lambda: is_tube(STILL, BOX, time, 0, None))
        for count in ODD_COUNTS:
            self.assert_bad(BadNumber, {"what": "count", "number": count}, lambda: tube(STILL, BOX, 1, count, 0, None))
            self.assert_bad(BadNumber, {"what": "count", "number": count}, lambda: tube(STILL, BOX, 1, count, 1, 1))
        for order in ODD_ORDERS:
            self.assert_bad(BadNumber, {"what": "order", "number": order}, lambda: tube(STILL, BOX, 1, 20, order, None))
            self.assert_bad(BadNumber, {"what": "order", "number": order}, lambda: is_tube(STILL, BOX, [1, 1], order, None))
        for bits in ODD_BITS:
            self.assert_bad(BadNumber, {"what": "bits", "number": bits}, lambda: tube(STILL, BOX, 1, 1, 6, bits))

    def test_objects_keep_what_they_are_given(self):
        row = [1, [2]]
        objects = (Tube(row, row), Lost(row, row))
        row.append(3)
        for told in objects:
            for value in vars(told).values():
                self.assertEqual(value, (1, [2]))
            self.assertFalse(told == type(told)(*vars(told).values()))


class TestIsTube(TubeCase):

    CASES = (
        (field_of("1", "-y"), BOX, (1, 4), 2), (TURN, ((1, 1), (0, (1, 10))), (1, 10), 3), (field_of("x^2 - y", "x*y"), ((0, (1, 2)), (0, (1, 3))), (1, 8), 1),
    )

    def compare(self, case, values):
        many = 0
        for value in values:
            expected = papers.is_tube_right(*case, value)
            many += expected
            self.assertIs(is_tube(*case, value), expected, vars(value) if hasattr(value, "__dict__") else value)
        return many

    def test_one_thing_changed(self):
        for case in self.CASES:
            told = tube(case[0], case[1], case[2], 3, case[3], 20)
            self.assertGreater(self.compare(case, papers.sampled(papers.bent(told), 700)), 5)
            rooms, boxes = told.rooms, told.boxes
            self.compare(case, [
                Tube(rooms[1:], boxes[1:]), Tube(rooms[:2], boxes[:2]), Tube(rooms[:1], boxes), Tube(boxes, rooms), Tube(rooms[::-1], boxes[::-1]),
                Tube((), ()), Tube(rooms + rooms[-1:], boxes + boxes[-1:]), Tube(list(rooms), list(boxes)), Tube([list(rooms[0])], [boxes[0]]),
                Tube(rooms, (boxes[0], boxes[2], boxes[1])), Tube((rooms[1], rooms[0], rooms[2]), boxes), Lost(1, boxes), Tube(rooms, None),
            ])
            for other in self.CASES:
                self.compare(other, [told])

    def test_ends_by_a_little(self):
        case = self.CASES[0]
        told = tube(case[0], case[1], case[2], 1, case[3], 60)
        exact = papers.ends_behind(case[0], papers.box_of(case[1]), Fraction(1, 4), papers.box_of(told.rooms[0]), case[3])
        pairs = [[ref.pair(number) for number in pair] for pair in exact]
        self.assertIs(is_tube(*case, Tube(told.rooms, (tuple(tuple(pair) for pair in pairs),))), True)
        for letter in (0, 1):
            for end in (0, 1):
                for less, expected in (((1, 10 ** 40), False), ((-1, 10 ** 40), True)):
                    changed = [list(pair) for pair in pairs]
                    number = Fraction(*changed[letter][end]) + Fraction(*less) * (1 if end == 0 else -1)
                    changed[letter][end] = ref.pair(number)
                    self.assertIs(is_tube(*case, Tube(told.rooms, (tuple(tuple(pair) for pair in changed),))), expected)

    def test_any_values(self):
        case = self.CASES[0]
        told = tube(case[0], case[1], case[2], 1, case[3], 10)
        for odd in ref.ODD + ODD_BOXES:
            for value in (odd, Tube(odd, told.boxes), Tube(told.rooms, odd), Tube((odd,), told.boxes), Tube(told.rooms, (odd,)), Tube(odd, odd)):
                self.assertIs(is_tube(*case, value), False)
        for odd in (Tube, Lost(1, ()), (told,), told.rooms):
            self.assertIs(is_tube(*case, odd), False)


class TestGoals(TubeCase):

    TOLD = Tube((((0, 2), (0, 1)), ((1, 3), (0, (1, 2)))), (((1, 2), (0, 1)), ((2, 3), ((1, 4), (1, 2)))))

    def test_misses(self):
        for goal, expected in (
            (((4, 5), (0, 1)), True), (((3, 5), (0, 1)), False), (((3, 5), ((1, 2), 1)), False), (((3, 5), ((51, 100), 1)), True), (((-1, 0), (0, 1)), False),
            (((-2, (-1, 100)), (0, 1)), True), (((0, 9), (2, 3)), True), (((0, 9), (1, 3)), False), (((1, 1), ((1, 2), (1, 2))), False), (((-9, 9), (-9, 9)), False),
            (((0, 3), (-3, (-1, 10 ** 30))), True), (((0, 3), (-3, 0)), False), ([[4, 5], [0, [1, 1]]], True),
        ):
            self.assertIs(misses(self.TOLD, goal), expected, goal)
            self.assertIs(misses(Tube([[[0, 2], [0, 1]], ((1, 3), (0, (2, 4)))], [[[0, 9], [0, 9]]]), goal), expected)

    def test_ends_in(self):
        for goal, expected in (
            (((2, 3), ((1, 4), (1, 2))), True), (((0, 9), (0, 9)), True), (((2, 3), (0, (49, 100))), False), (((2, (29, 10)), (0, 1)), False),
            ((((21, 10), 3), (0, 1)), False), (((2, 3), ((26, 100), 1)), False), ([[2, 3], [[2, 8], [4, 8]]], True), (((1, 2), (0, 1)), False),
        ):
            self.assertIs(ends_in(self.TOLD, goal), expected, goal)

    def test_bad_goals(self):
        for odd in ODD_BOXES:
            self.assert_bad(BadRow, {"row": odd}, lambda: misses(self.TOLD, odd))
            self.assert_bad(BadRow, {"row": odd}, lambda: ends_in(self.TOLD, odd))


if __name__ == "__main__":
    unittest.main()
