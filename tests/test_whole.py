"""The whole document: parts tell the same of one field, each by its own way; nothing that is handed in changes."""

import unittest
from fractions import Fraction

import papers
import reference as ref
from flowpapers.cycles import AtMost, Cycle, Factor, factor_on, most_cycles, ring_cycle
from flowpapers.desk import Desk
from flowpapers.errors import Shared
from flowpapers.fields import Field, changed, field_at, slope_along, stream_out, turned_back
from flowpapers.linear import Common, common_form, kind, least_room
from flowpapers.norests import Rested, Restless, Rising, leaves_within, no_rest, rising
from flowpapers.planes import Plane, plane_of, plane_text
from flowpapers.rests import focus, kind_at, rests, winding
from flowpapers.rooms import AtRest, Kept, Room, Turn, kept, kept_until, turning
from flowpapers.triangles import Cover, never_below_in, triangles
from flowpapers.tubes import Tube, ends_in, misses, stays, tube

WIDE = Room(((-9, -9), (9, -9), (9, 9), (-9, 9)))
SQUARE = Room(((-1, -1), (1, -1), (1, 1), (-1, 1)))
MATRICES = ((1, 0, 0, 1), (0, 1, 1, 0), (1, 1, 0, 1), (2, 1, 1, 1), (1, -2, 3, 1), ((1, 3), (1, 2), 0, (-1, 5)), (-1, 0, 0, -1))


def field_of(p, q):
    return Field(plane_of(p), plane_of(q))


def moved(place, matrix, shift):
    a, b, c, d = papers.fractions(matrix)
    e, f = papers.fractions(shift)
    x, y = papers.fractions(place)
    return ref.pair(a * x + b * y + e), ref.pair(c * x + d * y + f)


class TestRoundRests(unittest.TestCase):

    def test_turning_numbers_are_sums_over_rests(self):
        numbers = ref.stream(151)
        many = 0
        for _ in range(60):
            field = Field(*[Plane(ref.mixed_rows(numbers, 1 + next(numbers) % 3, 3)) for _ in range(2)])
            row = [(next(numbers) % 13 - 6, (next(numbers) % 25 - 12, 2)) for _ in range(3 + next(numbers) % 4)]
            if any(ref.places((one,)) == ref.places((other,)) for one, other in zip(row, row[1:] + row[:1])):
                continue
            try:
                found = rests(field, WIDE, 60)
            except Shared:
                continue
            told = turning(field, row, 8)
            if isinstance(told, AtRest) or any(rest.det == 0 for rest in found):
                continue
            middles = [tuple(ref.pair((Fraction(*low) + Fraction(*high)) / 2) for low, high in (rest.x, rest.y)) for rest in found]
            self.assertEqual(told.number, sum(rest.det * winding(row, middle) for rest, middle in zip(found, middles)))
            many += 1
        self.assertGreater(many, 30)

    def test_kept_rooms_turn_once(self):
        numbers = ref.stream(152)
        many = 0
        for _ in range(60):
            room = (SQUARE, Room(((-2, -1), (3, -2), (1, 4))), Room(((2, 2), (-2, 2), (-2, -2), (2, -2))))[next(numbers) % 3]
            much = 5 + next(numbers) % 90
            field = Field(*[Plane(ref.mixed_rows(numbers, next(numbers) % 4, 2)) - much * plane_of(letter) for letter in "xy"])
            if isinstance(kept(field, room), Kept):
                row = [start for start, _ in room.sides]
                told = turning(field, row, 5)
                if isinstance(told, Turn):
                    self.assertEqual(told.number, 1)
                    many += 1
                    # So a rest is in it, and their numbers add up to 1.
                    found = rests(field, room, 5)
                    if all(rest.det for rest in found):
                        self.assertEqual(sum(rest.det for rest in found), 1)
                    self.assertIs(type(no_rest(field, room, 5)), Rested)
        self.assertGreater(many, 20)

    def test_backwards(self):
        numbers = ref.stream(153)
        for _ in range(25):
            field = Field(*[Plane(ref.mixed_rows(numbers, 1 + next(numbers) % 3, 4)) for _ in range(2)])
            back = turned_back(field)
            try:
                found, other = rests(field, WIDE, 30), rests(back, WIDE, 30)
            except Shared:
                continue
            self.assertEqual([(rest.x, rest.y, rest.det, rest.trace, rest.on_side) for rest in found],
                             [(rest.x, rest.y, rest.det, -rest.trace, rest.on_side) for rest in other])
            row = [(next(numbers) % 9, next(numbers) % 9), (-1 - next(numbers) % 9, next(numbers) % 9), (0, -1 - next(numbers) % 9)]
            self.assertEqual(vars(turning(field, row, 5)), vars(turning(back, row, 5)))

    def test_other_letters(self):
        numbers = ref.stream(154)
        for matrix in MATRICES:
            a, b, c, d = papers.fractions(matrix)
            sign = 1 if a * d > b * c else -1
            for _ in range(5):
                shift = (ref.mixed_ratio(numbers, 5), ref.mixed_ratio(numbers, 5))
                field = Field(*[Plane(ref.mixed_rows(numbers, 1 + next(numbers) % 3, 4)) for _ in range(2)])
                other = changed(field, matrix, shift)
                row = [(next(numbers) % 9, next(numbers) % 9), (-1 - next(numbers) % 9, next(numbers) % 9), (0, -1 - next(numbers) % 9)]
                one, two = turning(field, row, 5), turning(other, [moved(place, matrix, shift) for place in row], 5)
                if isinstance(one, Turn):
                    self.assertEqual(sign * one.number, two.number)
                # Rooms go along, and with them what they keep, where they have rests, and which way these are.
                room = Room(tuple(moved(place, matrix, shift) for place in SQUARE.corners))
                self.assertIs(type(kept(field, SQUARE)), type(kept(other, room)))
                try:
                    found, further = rests(field, SQUARE, 20), rests(other, room, 20)
                except Shared:
                    continue
                self.assertEqual(sorted((rest.det, rest.trace, rest.on_side) for rest in found),
                                 sorted((rest.det, rest.trace, rest.on_side) for rest in further))
                self.assertIs(type(no_rest(field, SQUARE, 3)), type(no_rest(other, room, 3)))

    def test_kinds_of_moved_rests(self):
        field = field_of("x - x*y", "x*y - y")
        for matrix in MATRICES:
            other = changed(field, matrix, (1, (2, 3)))
            for place in ((0, 0), (1, 1)):
                self.assertEqual(vars(kind_at(field, place)), vars(kind_at(other, moved(place, matrix, (1, (2, 3))))))
            told = focus(other, moved((1, 1), matrix, (1, (2, 3))))
            self.assertEqual(told, (0, 1))


class TestOneField(unittest.TestCase):

    RING = Room(((-2, -2), (2, -2), (2, 2), (-2, 2)), ((((-1, 2), (-1, 2)), ((1, 2), (-1, 2)), ((1, 2), (1, 2)), ((-1, 2), (1, 2))),))
    FIELD = field_of("-y + 2*x - x^3 - x*y^2", "x + 2*y - x^2*y - y^3")

    def test_a_ring_with_just_one_cycle(self):
        self.assertIs(type(kept(self.FIELD, self.RING)), Kept)
        self.assertEqual(rests(self.FIELD, self.RING, 5), ())
        self.assertIs(type(no_rest(self.FIELD, self.RING, 5)), Restless)
        self.assertIs(type(ring_cycle(self.FIELD, self.RING, 5)), Cycle)
        self.assertEqual(turning(self.FIELD, self.RING.corners, 5).number, 1)
        self.assertEqual(turning(self.FIELD, self.RING.holes[0], 5).number, 1)
        # The circle with x * x + y * y = 2 is one: no flow crosses it.
        plane = plane_of("x^2 + y^2 - 2")
        self.assertEqual(slope_along(self.FIELD, plane), -2 * plane * plane_of("x^2 + y^2"))
        told = most_cycles(self.FIELD, Room(((1, -1), (2, -1), (2, 1), (1, 1))), plane_of("1"), 8)
        self.assertEqual(plane_text(stream_out(self.FIELD)), "4 - 4*y^2 - 4*x^2")
        self.assertIsInstance(told, AtMost)
        self.assertEqual((told.many, told.sign), (0, -1))
        self.assertEqual(focus(field_of("-y - x^3 - x*y^2", "x - x^2*y - y^3"), (0, 0)), (-2, 1))

    def test_what_leaves_has_no_rest(self):
        numbers = ref.stream(155)
        many = 0
        for _ in range(30):
            field = Field(*[Plane(ref.mixed_rows(numbers, next(numbers) % 3, 2)) + next(numbers) % 9 for _ in range(2)])
            told = rising(field, SQUARE, ((), ()), 2)
            if isinstance(told, Rising):
                many += 1
                try:
                    self.assertEqual(rests(field, SQUARE, 5), ())
                except Shared:
                    pass
                # No flow stays, so the room keeps none, and there is no cycle to bar.
                self.assertIsNot(type(kept(field, SQUARE)), Kept)
                self.assertEqual(turning(field, SQUARE.corners, 5).number, 0)
                if told.plane.degree() == 2:
                    time = leaves_within(field, SQUARE, ((), ()), told.plane)
                    self.assertGreater(Fraction(*time), 0)
                    self.assertIs(type(never_below_in(slope_along(field, told.plane) - 1, SQUARE, 8)), Cover)
        self.assertGreater(many, 8)

    def test_linear_flows_in_each_part(self):
        for matrix in ((-1, 2, -1, -1), (-3, 1, 0, -1), (0, 1, -2, -3), (-1, 0, 0, -1)):
            a, b, c, d = matrix
            x, y = plane_of("x"), plane_of("y")
            field = Field(a * x + b * y, c * x + d * y)
            self.assertEqual(vars(kind(matrix)), vars(kind_at(field, (0, 0))))
            self.assertEqual([(rest.x, rest.det, rest.trace) for rest in rests(field, SQUARE, 5)], [(((0, 1), (0, 1)), 1, -1)])
            # The least room that it keeps is one that it keeps.
            directions = ((2, 1), (0, 1), (-1, 1), (-1, -1), (1, -2))
            told = least_room(matrix, (0, 0), directions, ((1, 1), (0, -1), (-1, 0), ((1, 2), -1)))
            if hasattr(told, "numbers"):
                corners = []
                for k in range(5):
                    (u, v), (w, z) = directions[k], directions[(k + 1) % 5]
                    one, other = Fraction(*told.numbers[k]), Fraction(*told.numbers[(k + 1) % 5])
                    corners.append((ref.pair((one * z - other * v) / (u * z - v * w)), ref.pair((u * other - w * one) / (u * z - v * w))))
                corners = [corner for k, corner in enumerate(corners) if corner != corners[k - 1]]
                self.assertIs(type(kept(field, Room(corners))), Kept)
            form = common_form(matrix, matrix)
            self.assertIs(type(form), Common)
            p, q, r = (ref.pair(number) for number in papers.fractions(form.form))
            fall = -slope_along(field, p * x * x + 2 * (q * x * y) + r * y * y)
            self.assertIs(type(never_below_in(fall, Room(((1, 1), (2, 1), (2, 2), (1, 2))), 8)), Cover)

    def test_tubes_beside_rooms(self):
        field = field_of("-x + 1/4*y^2", "-y - 1/4*x^2")
        told = tube(field, (((1, 2), (3, 4)), ((-1, 4), 0)), (1, 8), 16, 3, 20)
        self.assertIs(type(told), Tube)
        box = told.rooms[0]
        self.assertIs(stays(field, (((1, 2), (3, 4)), ((-1, 4), 0)), (1, 8), box), True)
        # The square keeps all flows: so the tube stays near to it, and comes to its middle.
        self.assertIs(type(kept(field, SQUARE)), Kept)
        self.assertIs(ends_in(told, ((-1, 1), (-1, 1))), True)
        self.assertIs(misses(told, ((2, 3), (2, 3))), True)
        self.assertIs(misses(told, ((0, 1), (-1, 1))), False)
        self.assertIsNotNone(kept_until(field, turned_back(field), SQUARE, 3))

    def test_a_factor_bars_cycles(self):
        field = field_of("x^2 + 1", "y^2 + y")
        told = factor_on(field, SQUARE, ((), ()), 1)
        if isinstance(told, Factor):
            found = most_cycles(field, SQUARE, told.plane, 8)
            self.assertIsInstance(found, AtMost)
            self.assertEqual((found.many, found.sign), (0, 1))


class TestNothingChanges(unittest.TestCase):

    def test_arguments_stay_as_they_were(self):
        field = field_of("-x + 1/3*y^2", "-y + 1/5")
        row = [[-1, -1], [1, -1], [1, [1, 1]], [-1, 1]]
        tree = [[0, [], [1, [], []]], []]
        box, matrix, points = [[0, 1], [[1, 2], 2]], [-1, 2, [-1, 1], -1], [[1, 1], [0, 0]]
        directions = [[1, 0], [0, 1], [-1, -1]]
        values = (row, tree, box, matrix, points, directions)
        ahead = repr(values)
        room = Room(row, [])
        winding(row, [0, 0])
        turning(field, row, 5)
        rising(field, room, tree, 2)
        factor_on(field, room, tree, 1)
        leaves_within(field, room, tree, plane_of("x"))
        tube(field, box, [1, 9], 2, 2, 5)
        least_room(matrix, [0, 0], directions, points)
        common_form(matrix, matrix)
        self.assertEqual(repr(values), ahead)
        shown = (field.p.rows, room.corners, room.sides, room.holes)
        for call in (lambda: kept(field, room), lambda: rests(field, room, 3), lambda: no_rest(field, room, 3), lambda: field_at(field, (1, 2)),
                     lambda: triangles(room)):
            call()
            self.assertEqual((field.p.rows, room.corners, room.sides, room.holes), shown)

    def test_a_desk_tells_what_the_functions_tell(self):
        numbers = ref.stream(156)
        for _ in range(20):
            field = Field(*[Plane(ref.mixed_rows(numbers, 1 + next(numbers) % 2, 4)) for _ in range(2)])
            desk = Desk(f"field f = {plane_text(field.p)} , {plane_text(field.q)}\nroom r = (-1, -1) (1, -1) (1, 1) (-1, 1)\nplane p = x + 2*y")
            self.assertEqual(desk.get("f"), field)
            self.assertIs(desk.kept("r keeps all of f")[0], isinstance(kept(field, SQUARE), Kept))
            told = turning(field, SQUARE.corners, 20)
            self.assertIs(desk.kept("f turns 0 times round r")[0], isinstance(told, Turn) and told.number == 0)
            try:
                self.assertIs(desk.kept("f has 1 rests in r")[0], len(rests(field, SQUARE, 20)) == 1)
            except Shared:
                pass
            time = leaves_within(field, SQUARE, ((), ()), plane_of("x + 2*y"))
            self.assertIs(desk.kept("f leaves r by p in 1000")[0], time is not None and Fraction(*time) <= 1000)
            told = never_below_in(-slope_along(field, plane_of("x + 2*y")), SQUARE, 12)
            self.assertIs(desk.kept("p never rises in r by f")[0], isinstance(told, Cover))


if __name__ == "__main__":
    unittest.main()
