"""Points [37], [38] and [39]: least rooms that linear flows keep, and forms of two matrices."""

import unittest
from fractions import Fraction

import papers
import reference as ref
from flowpapers.errors import BadRow
from flowpapers.linear import (
    Apart, Common, LeastRoom, NoRoom, common_form, is_common, is_least_room, least_room,
)
from test_linear import LinearCase, odd_rows

BOX = ((1, 0), (0, 1), (-1, 0), (0, -1))
TRIANGLE = ((1, 0), (0, 1), (-1, -1))
EIGHT = ((2, 0), (3, 3), (0, (1, 2)), (-1, 1), (-5, 0), (-1, -1), (0, -7), (1, -1))
TWELVE = ((5, 0), (4, 2), (3, 4), (0, 5), (-3, 4), (-4, 2), (-5, 0), (-4, -3), (-2, -4), (0, -1), (2, -4), (4, -3))
INWARDS = (-1, 0, 0, -1)


class TestLeastRoom(LinearCase):

    def check(self, matrix, shift, directions, points, expected=None):
        told = least_room(matrix, shift, directions, points)
        self.assertTrue(papers.is_least_right(matrix, shift, directions, points, told))
        self.assertIs(is_least_room(matrix, shift, directions, points, told), True)
        self.assertEqual((type(told.shares), len(told.shares)), (tuple, len(directions)))
        for row in told.shares:
            self.assert_pairs(row, 4)
        if isinstance(told, LeastRoom):
            self.assert_pairs(told.numbers, len(directions))
        if expected is not None:
            self.assertEqual(told.numbers, tuple(ref.pair(number) for number in expected))
        return told

    def test_known(self):
        self.check(INWARDS, (0, 0), BOX, ((0, 0),), (0, 0, 0, 0))
        self.check(INWARDS, (0, 0), BOX, ((1, 2),), (1, 2, 0, 0))
        self.check(INWARDS, (0, 0), BOX, ((1, 2), (-3, (1, 2))), (1, 2, 3, 0))
        # All flows come to (5, -1).
        self.check(INWARDS, (5, -1), BOX, ((5, -1),), (5, -1, -5, 1))
        self.check(INWARDS, (5, -1), BOX, ((1, 2),), (5, 2, -1, 1))
        # A point at which nothing moves is a room, and so is each polygon where nothing moves at all.
        self.check((0, 0, 0, 0), (0, 0), TRIANGLE, ((1, 1), (2, 0)), (2, 1, -2))
        self.check((0, 1, -1, 0), (0, 0), EIGHT, ((0, 0),), (0,) * 8)
        # At x = 4, y = 0 the flow goes down, at y = -2 to the left, at x = -1 up.
        self.check((-2, 1, -1, -2), (0, 0), BOX, ((4, 0),), (4, Fraction(1, 2), 1, 2))

    def test_none(self):
        for matrix, shift, points in (
            ((1, 0, 0, 1), (0, 0), ((1, 1),)), ((0, 1, -1, 0), (0, 0), ((1, 0),)), ((0, 0, 0, 0), (1, 0), ((0, 0),)),
            ((1, 0, 0, -1), (0, 0), ((1, 0),)), ((-1, 5, 5, -1), (0, 0), ((0, 1),)), ((-1, 0, 0, (1, 1000)), (0, 1), ((0, 0),)),
        ):
            for directions in (BOX, TRIANGLE, EIGHT, TWELVE):
                self.assertIs(type(self.check(matrix, shift, directions, points)), NoRoom)

    def test_drawn(self):
        numbers = ref.stream(94)
        found = {LeastRoom: 0, NoRoom: 0}
        for k in range(120):
            size = (1, 3, 10 ** 20)[k % 3]
            directions = (BOX, TRIANGLE, EIGHT, TWELVE)[next(numbers) % 4]
            start = next(numbers) % len(directions)
            directions = directions[start:] + directions[:start]
            a, b, c, d = (Fraction(*ref.mixed_ratio(numbers, 3)) for _ in range(4))
            less = next(numbers) % 9
            matrix = tuple(ref.pair(number) for number in (a - less, b, c, d - less))
            shift = (0, 0) if k % 2 else (ref.mixed_ratio(numbers, size), ref.mixed_ratio(numbers, size))
            points = tuple((ref.mixed_ratio(numbers, size), ref.mixed_ratio(numbers, size)) for _ in range(1 + next(numbers) % 12))
            found[type(self.check(matrix, shift, directions, points))] += 1
        self.assertTrue(min(found.values()) > 25, found)

    def test_it_is_least(self):
        """Each room from outside in that is kept: its numbers are above those of the least one, none by one alone."""
        matrix, shift, points = (-3, 1, -1, -2), (1, 2), ((1, 1), (-2, 0))
        told = self.check(matrix, shift, EIGHT, points)
        numbers = papers.fractions(told.numbers)
        for k in range(8):
            less = list(numbers)
            less[k] -= Fraction(1, 1000)
            rows = papers.sums_at(matrix, shift, EIGHT, points, less)
            self.assertLess(min(min(row) for row in rows), 0)

    def test_lists(self):
        told = least_room([-1, [0, 3], 0, -1], [[5, 1], -1], [[1, 0], (0, 1), [-1, [0, 1]], [0, -1]], [[1, 2], (0, 0)])
        self.assertEqual(told.numbers, ((5, 1), (2, 1), (0, 1), (1, 1)))

    def test_errors_in_their_order(self):
        right = (INWARDS, (0, 0), BOX, ((1, 2),))
        odd_directions = (
            None, (), BOX[:2], BOX[::-1], ((1, 0), (0, 1), (-1, 0)), ((1, 0), (1, 0), (0, 1), (-1, -1)), ((1, 0), (-1, 0), (0, 1)),
            ((1, 0), (0, 0), (-1, -1)), BOX + BOX, BOX + BOX[:1], TRIANGLE * 2, ((1, 0), (0, 1), (-1, -1), (1, -1), (0, 1), (-1, -1)),
            ((1, 0), (0, 1), (-1, -1), None), ((1, 0), (0, 1), (-1, -1, 2)), ((1, 0), (0, True), (-1, -1)), "abc", {(1, 0): 1}, 7,
            ((1, 0), (0, 1), (1, 1)), ((1, 0), (2, 0), (-1, -1)),
        )
        odd_points = (None, (), [], ((1, 2), None), ((1, 2, 3),), (1, 2), ((1, True),), "12", {(1, 2): 3}, 5, ((1, 2), (1, (2, 0))))
        for k, odd_values in enumerate((odd_rows(4), odd_rows(2), odd_directions, odd_points)):
            for odd in odd_values:
                for behind in (right[k + 1:], (None,) * (3 - k)):
                    row = right[:k] + (odd,) + behind
                    self.assert_bad(odd, lambda: least_room(*row))
                    self.assert_bad(odd, lambda: is_least_room(*row, None))


class TestIsLeastRoom(LinearCase):

    CASES = (
        (INWARDS, (0, 0), TRIANGLE, ((1, 2), (3, 0))), (INWARDS, (5, -1), BOX, ((1, 2),)), ((0, 1, -1, 0), (0, 0), TRIANGLE, ((1, 0),)),
        ((1, 0, 0, 1), (1, (1, 3)), BOX, ((0, 0), (2, 2))),
    )

    def test_one_thing_changed(self):
        for case in self.CASES:
            told = least_room(*case)
            right = 0
            for value in papers.sampled(papers.bent(told), 900):
                expected = papers.is_least_right(*case, value)
                right += expected
                self.assertIs(is_least_room(*case, value), expected)
            self.assertGreater(right, 0)
            for other in self.CASES:
                self.assertIs(is_least_room(*other, told), papers.is_least_right(*other, told))

    def test_any_values(self):
        case = self.CASES[0]
        told = least_room(*case)
        for odd in ref.ODD + (LeastRoom, NoRoom, told.shares, told.numbers, (told,), [told], LeastRoom(None, None), NoRoom(None), NoRoom(told.shares),
                              LeastRoom(told.numbers, ()), LeastRoom((), told.shares), LeastRoom(told.shares, told.numbers), Common(told.numbers)):
            self.assertIs(is_least_room(*case, odd), False)
        self.assertIs(is_least_room(*case, LeastRoom(list(told.numbers), list(told.shares))), True)
        self.assertIs(is_least_room(*case, LeastRoom(told.numbers, [list(row) for row in told.shares])), False)

    def test_greater_rooms(self):
        # A greater room is kept, too, but has no shares.
        case = self.CASES[0]
        told = least_room(*case)
        greater = tuple(ref.pair(Fraction(*number) + 1) for number in told.numbers)
        self.assertTrue(all(one >= 0 for row in papers.sums_at(*case, papers.fractions(greater)) for one in row))
        self.assertIs(is_least_room(*case, LeastRoom(greater, told.shares)), False)


class TestCommonForm(LinearCase):

    # Pairs of matrices that draw all flows, and whether they have a common form.
    PAIRS = (
        (INWARDS, INWARDS, True), (INWARDS, (-5, 3, 0, -1), True), ((-1, 1, 0, -1), (-1, 0, 1, -1), True), ((-1, 2, 0, -1), (-1, 0, 2, -1), False),
        ((-1, (199, 100), 0, -1), (-1, 0, (199, 100), -1), True), ((-1, (201, 100), 0, -1), (-1, 0, (201, 100), -1), False),
        ((-1, -1, 1, -1), (-1, -10, (1, 10), -1), False), ((-1, -1, 1, -1), (-1, -5, (1, 5), -1), True),
        ((-1, -1, 1, -1), (-1, -6, (1, 6), -1), False), ((-1, -10, 1, -1), (-1, 1, -10, -1), False), ((-1, 5, -5, -1), (-1, -5, 5, -1), True),
        ((-1, 1, -1, -1), (-1, -1, 1, -1), True), ((-3, 999, 0, -2), (-3, 998, 0, -2), True), (((-1, 999), 0, 0, -999), INWARDS, True),
    )

    def check(self, one, other):
        told = common_form(one, other)
        self.assertTrue(papers.is_common_right(one, other, told))
        self.assertIs(is_common(one, other, told), True)
        if isinstance(told, Common):
            self.assert_pairs(told.form, 3)
        else:
            self.assertIs(type(told), Apart)
            self.assert_pairs((told.t,), 1)
        return told

    def test_known(self):
        for one, other, has in self.PAIRS:
            for pair in ((one, other), (other, one), (list(one), list(other))):
                self.assertIs(type(self.check(*pair)), Common if has else Apart)

    def test_both_ways(self):
        # In the first pair a mixture with the other matrix fails, in the second one with its inverse.
        self.assertEqual(self.check((-1, 2, 0, -1), (-1, 0, 2, -1)).way, "with")
        self.assertEqual(self.check((-1, -1, 1, -1), (-1, -10, (1, 10), -1)).way, "against")

    def test_drawn(self):
        numbers = ref.stream(95)
        found = {Common: 0, Apart: 0}
        while sum(found.values()) < 150:
            size = (3, 9, 999)[next(numbers) % 3]
            one, other = (tuple(ref.mixed_ratio(numbers, size) for _ in range(4)) for _ in range(2))
            way = next(numbers) % 3
            if way == 0:
                one, other = ((-1, row[1], row[2], -1) for row in (one, other))
            if way == 1:
                other = tuple((top + next(numbers) % 3 - 1, bottom) for top, bottom in one)
            if all(a + d < 0 < a * d - b * c for a, b, c, d in (papers.fractions(one), papers.fractions(other))):
                found[type(self.check(one, other))] += 1
        self.assertTrue(min(found.values()) > 10, found)

    def test_errors_in_their_order(self):
        not_drawing = ((1, 0, 0, 1), (0, 1, -1, 0), (-1, 0, 0, 0), (-1, 0, 0, 1), (0, 0, 0, 0), (-1, 1, 1, -1), (1, 5, -5, -1), [2, 0, 0, 2])
        for odd in odd_rows(4) + not_drawing:
            for further in (INWARDS, None, (1, 1, 1, 1)):
                self.assert_bad(odd, lambda: common_form(odd, further))
                self.assert_bad(odd, lambda: is_common(odd, further, None))
            self.assert_bad(odd, lambda: common_form(INWARDS, odd))
            self.assert_bad(odd, lambda: is_common([-1, 0, 0, -1], odd, None))


class TestIsCommon(LinearCase):

    def test_one_thing_changed(self):
        for one, other, _ in TestCommonForm.PAIRS:
            told = common_form(one, other)
            right = 0
            for value in papers.bent(told):
                expected = papers.is_common_right(one, other, value)
                right += expected
                self.assertIs(is_common(one, other, value), expected, vars(value))
            self.assertGreater(right, 0)

    def test_any_values(self):
        pair = (INWARDS, (-5, 3, 0, -1))
        for odd in ref.ODD + (Common, Apart, (1, 0, 1), Common(None), Common(((1, 0, 1),)), Common("101"), Apart(None, None), Apart("with", None),
                              Apart(("with",), (1, 2)), Apart("with", (1, 2)), Apart("against", (1, 2)), LeastRoom((1, 0, 1), ())):
            self.assertIs(is_common(*pair, odd), False)
        for form, expected in (((1, 0, 1), True), ((2, 0, 2), True), (((2, 2), (0, 5), 1), True), ([1, 0, 1], True), ((1, [0, 1], 1), False),
                               ((-1, 0, -1), False), ((1, 1, 1), False), ((0, 0, 0), False), ((1, 0, 1, 0), False), ((1, 0, True), False),
                               ((1, 0, (1, -1)), False), ((1, 0, (1, 100)), False)):
            self.assertIs(is_common(*pair, Common(form)), expected, form)

    def test_aparts(self):
        one, other = (-1, 2, 0, -1), (-1, 0, 2, -1)
        for way, t, expected in (
            ("with", (1, 2), True), ("with", (2, 4), True), ("with", (49, 100), False), ("against", (1, 2), False), ("with", 0, False),
            ("with", 1, False), ("with", (-1, 2), False), ("with", (3, 2), False), ("With", (1, 2), False), ("", (1, 2), False),
            ("with", [1, 2], True), ("with", ((1, 2),), False), ("with", (1, -2), False), ("with", True, False), (["with"], (1, 2), False),
        ):
            self.assertIs(is_common(one, other, Apart(way, t)), expected, (way, t))
        one, other = (-1, 3, 0, -1), (-1, 0, 3, -1)
        for t, expected in (((1, 2), True), ((2, 3), True), ((9, 10), False), ((1, 10), False)):
            self.assertIs(is_common(one, other, Apart("with", t)), expected)


if __name__ == "__main__":
    unittest.main()
