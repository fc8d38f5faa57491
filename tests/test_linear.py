"""Points [35], [36] and [39]: kinds of linear flows, and forms along them."""

import unittest
from fractions import Fraction

import papers
import reference as ref
from flowpapers.errors import BadRow
from flowpapers.linear import (
    Apart, Common, Falling, Kind, LeastRoom, NoRoom, Staying, form_for, kind, slope_of_form,
)


def odd_rows(many):
    """Values that are no rows of so many ratios."""
    right = tuple(range(1, many + 1))
    return tuple(odd for odd in ref.ODD if odd not in ((1, 0), [1, 0], (1, -1), (1, 2, 3))) + (
        right + (1,), right[:-1], [None] + list(right[1:]), right[:-1] + (True,), right[:-1] + ((1, 0),), right[:-1] + ("1",), (right,),
        right[:-1] + ((1, 2, 3),), right[:-1] + (1.0,), {k: 1 for k in right}, "1" * many, right[:-1] + ([],), 5, range(many), object(),
    )


class LinearCase(unittest.TestCase):

    def assert_bad(self, value, call):
        with self.assertRaises(BadRow) as seen:
            call()
        self.assertIs(seen.exception.row, value)

    def assert_pairs(self, row, many):
        self.assertEqual((type(row), len(row)), (tuple, many))
        for number in row:
            self.assertIs(type(number), tuple)
            self.assertEqual(number, ref.pair(Fraction(*number)))


class TestKind(LinearCase):

    def test_words(self):
        for matrix, word in (
            ((1, 0, 0, -1), "saddle"), ((0, 1, 1, 0), "saddle"), ((5, 2, 3, 1), "saddle"), ((0, 1, -1, 0), "round"), ((2, -5, 1, -2), "round"),
            ((-1, 1, -1, -1), "turning in"), ((1, 1, -1, 1), "turning out"), ((1, 1, (-1, 10 ** 40), 1), "turning out"),
            ((-1, 0, 0, -1), "straight in"), ((-1, 5, 0, -1), "straight in"), ((1, 1, (1, 10 ** 40), 1), "straight out"), ((3, 0, 0, 1), "straight out"),
            ((-1, 0, 0, 0), "line in"), ((-2, 1, 4, -2), "line in"), ((2, 1, 4, 2), "line out"), ((0, 0, 0, (1, 10 ** 60)), "line out"),
            ((0, 1, 0, 0), "sliding"), ((1, -1, 1, -1), "sliding"), ((0, 0, 0, 0), "still"), (((0, 5), 0, [0, 7], 0), "still"),
        ):
            for row in (matrix, list(matrix)):
                told = kind(row)
                self.assertIs(type(told), Kind)
                a, b, c, d = (ref.fraction(tuple(number) if isinstance(number, list) else number) for number in matrix)
                self.assertEqual(vars(told), {"trace": ref.pair(a + d), "determinant": ref.pair(a * d - b * c), "word": word})
        self.assertEqual(list(vars(kind((1, 2, 3, 4)))), ["trace", "determinant", "word"])

    def test_drawn(self):
        numbers = ref.stream(91)
        seen = set()
        for _ in range(300):
            matrix = tuple(ref.mixed_ratio(numbers, 3) for _ in range(4))
            a, b, c, d = (Fraction(*number) for number in matrix)
            trace, determinant = a + d, a * d - b * c
            way = "in" if trace < 0 else "out"
            if determinant < 0:
                word = "saddle"
            elif determinant == 0:
                word = "line " + way if trace else "sliding" if any((a, b, c, d)) else "still"
            elif trace == 0:
                word = "round"
            else:
                word = ("turning " if trace ** 2 < 4 * determinant else "straight ") + way
            self.assertEqual(kind(matrix).word, word)
            seen.add(word)
        self.assertTrue(len(seen) >= 7, seen)

    def test_no_matrices(self):
        for odd in odd_rows(4):
            self.assert_bad(odd, lambda: kind(odd))


class TestForms(LinearCase):

    def test_slopes_by_the_flow(self):
        numbers = ref.stream(92)
        for k in range(60):
            size = (1, 3, 10 ** 59)[k % 3]
            matrix = tuple(ref.mixed_ratio(numbers, size) for _ in range(4))
            form = tuple(ref.mixed_ratio(numbers, size) for _ in range(3))
            told = slope_of_form(list(matrix), [list(number) for number in form])
            self.assert_pairs(told, 3)
            self.assertEqual(told, tuple(ref.pair(number) for number in papers.slope_of(matrix, papers.fractions(form))))
        self.assertEqual(slope_of_form((1, 2, 3, 4), (1, 0, 0)), ((2, 1), (2, 1), (0, 1)))
        self.assertEqual(slope_of_form((0, 1, -1, 0), (1, 0, 1)), ((0, 1),) * 3)

    def test_forms_that_fall(self):
        numbers = ref.stream(93)
        above = 0
        for k in range(100):
            size = (2, 9, 10 ** 59)[k % 3]
            matrix = tuple(ref.mixed_ratio(numbers, size) for _ in range(4))
            falls = tuple(ref.mixed_ratio(numbers, size) for _ in range(3))
            if k % 2:
                matrix = ((-size, 1), matrix[1], matrix[2], (-size - k, 1))
                falls = ((size, 1), falls[1], (size + k, 1))
            a, b, c, d = papers.fractions(matrix)
            told = form_for(matrix, falls)
            self.assert_pairs(told.form, 3)
            slope = papers.slope_of(matrix, papers.fractions(told.form))
            if a + d == 0 or a * d == b * c:
                self.check_staying(matrix, falls)
            else:
                self.assertIs(type(told), Falling)
                self.assertEqual([-number for number in slope], papers.fractions(falls))
                if a + d < 0 < a * d - b * c and papers.is_above(papers.fractions(falls)):
                    self.assertTrue(papers.is_above(papers.fractions(told.form)))
                    above += 1
        self.assertGreater(above, 3)
        self.assertEqual(form_for((-1, 0, 0, -2), (1, 0, 1)).form, ((1, 2), (0, 1), (1, 4)))
        self.assertEqual(form_for((-1, 0, 0, -2), (0, 0, 0)).form, ((0, 1),) * 3)

    def check_staying(self, matrix, falls):
        told = form_for(matrix, falls)
        self.assertIs(type(told), Staying)
        self.assert_pairs(told.form, 3)
        self.assertTrue(any(top for top, _ in told.form))
        self.assertEqual(list(papers.slope_of(matrix, papers.fractions(told.form))), [0, 0, 0])

    def test_forms_that_stay(self):
        for matrix in (
            (0, 1, -1, 0), (1, 0, 0, -1), (2, -5, 1, -2), (3, 1, 2, -3), (0, 0, 0, 0), (0, 1, 0, 0), (1, 0, 0, 0), (0, 0, 0, -5), (1, 2, 2, 4),
            (1, -1, 1, -1), ((1, 10 ** 59), (1, 3), 0, 0), ((7, 3), 5, (10 ** 59, 7), (-7, 3)),
        ):
            for falls in ((1, 0, 1), (0, 0, 0), (5, (1, 3), -2)):
                self.check_staying(matrix, falls)

    def test_errors_in_their_order(self):
        for odd in odd_rows(4):
            for further in ((1, 2, 3), None, (1, 2)):
                self.assert_bad(odd, lambda: slope_of_form(odd, further))
                self.assert_bad(odd, lambda: form_for(odd, further))
        for odd in odd_rows(3):
            for matrix in ((1, 2, 3, 4), (0, 1, -1, 0), [0, 0, 0, 0]):
                self.assert_bad(odd, lambda: slope_of_form(matrix, odd))
                self.assert_bad(odd, lambda: form_for(matrix, odd))

    def test_objects_keep_what_they_are_given(self):
        row = [1, [2]]
        objects = (Kind(row, row, row), Falling(row), Staying(row), LeastRoom(row, row), NoRoom(row), Common(row), Apart(row, row))
        row.append(3)
        for told in objects:
            for value in vars(told).values():
                self.assertEqual(value, (1, [2]))
        for one in objects:
            self.assertFalse(one == type(one)(*vars(one).values()))


if __name__ == "__main__":
    unittest.main()
