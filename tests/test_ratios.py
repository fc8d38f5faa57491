"""Point [4]: ratios."""

import enum
import unittest
from fractions import Fraction
from math import floor, gcd

from flowpapers.errors import BadNumber
from flowpapers.ratios import (
    floor_of, is_ratio, lower, minus, plus, ratio_text, share, times, told,
)

BIG = 10 ** 5000 + 7


class Step(enum.IntEnum):
    ONE = 1
    FOUR = 4


class Pair(tuple):
    pass


class Hostile:
    """Says yes to all that it is asked."""

    def __eq__(self, other):
        return True

    def __len__(self):
        return 2

    def __getitem__(self, at):
        return 1

    def __gt__(self, other):
        return True

    def __index__(self):
        return 1

    __int__ = __index__


RATIOS = (
    0, 1, -1, 7, -30, BIG, -BIG,
    (0, 1), (0, 5), [0, 9], (1, 2), [1, 2], (2, 4), [-2, 4], (-1, 2), (6, 3), [-6, 3], (7, 1),
    (-7, 3), (7, 3), [22, 7], (BIG, 3), [-BIG, 6], (3, BIG), (-BIG * 5, BIG * 10), (BIG, BIG + 1),
    Pair((3, 6)), Step.FOUR, (Step.ONE, Step.FOUR),
)


def self_held():
    row = [1]
    row.append(row)
    return row


NO_RATIOS = (
    True, False, None, "", "1", "1/2", "12", b"12", 1.0, 0.5, 2j, Fraction(1, 2),
    (), (1,), [1], (1, 2, 3), [1, 2, 3], (1, 0), [1, 0], (0, 0), (1, -2), [1, -2], (0, -1), (BIG, -BIG),
    (True, 1), (1, True), [False, 1], [1, False], (1.0, 2), (1, 2.0), ("1", 2), (1, "2"), (None, 1), (1, None),
    ((1, 2), 3), (1, (2, 3)), [[1], 2], {}, {1: 2, 3: 4}, {1, 2}, frozenset((1, 2)), range(1, 3), object(), int,
    Hostile(), (Hostile(), 1), (1, Hostile()), self_held(), iter((1, 2)),
)


def fraction(ratio):
    return Fraction(ratio) if isinstance(ratio, int) else Fraction(int(ratio[0]), int(ratio[1]))


def pair(number):
    return (number.numerator, number.denominator)


class RatioCase(unittest.TestCase):

    def assert_pair(self, found, number):
        self.assertIs(type(found), tuple)
        self.assertEqual([type(part) for part in found], [int, int])
        self.assertEqual(found, pair(number))
        self.assertEqual(gcd(*found), 1)
        self.assertGreater(found[1], 0)

    def assert_bad(self, what, number, call, *given):
        with self.assertRaises(BadNumber) as seen:
            call(*given)
        self.assertEqual(seen.exception.what, what)
        self.assertIs(seen.exception.number, number)


class TestOneRatio(RatioCase):

    def test_is_ratio(self):
        for value in RATIOS:
            self.assertIs(is_ratio(value), True, str(type(value)))
        for value in NO_RATIOS:
            self.assertIs(is_ratio(value), False, repr(type(value)))

    def test_told(self):
        for value in RATIOS:
            self.assert_pair(told(value, "ratio"), fraction(value))
        self.assertEqual(told([-2, 4], "x"), (-1, 2))
        self.assertEqual(told((0, 5), "x"), (0, 1))
        self.assertEqual(told(-3, "x"), (-3, 1))

    def test_told_wrong(self):
        for value in NO_RATIOS:
            for what in ("ratio", "point", None, ["a"], 3):
                with self.assertRaises(BadNumber) as seen:
                    told(value, what)
                self.assertIs(seen.exception.what, what)
                self.assertIs(seen.exception.number, value)

    def test_floor_of(self):
        for value in RATIOS:
            found = floor_of(value)
            self.assertIs(type(found), int)
            self.assertEqual(found, floor(fraction(value)))
        self.assertEqual(floor_of((-7, 2)), -4)
        self.assertEqual(floor_of((-1, BIG)), -1)
        self.assertEqual(floor_of([7, 2]), 3)
        self.assertEqual(floor_of((-8, 2)), -4)
        self.assertEqual(floor_of((0, 3)), 0)

    def test_ratio_text(self):
        for value, text in (
                (0, "0"), ((0, 9), "0"), (7, "7"), (-7, "-7"), ((14, 2), "7"), ([-14, 2], "-7"),
                ((1, 2), "1/2"), ([-1, 2], "-1/2"), ((-6, 4), "-3/2"), ((100, 30), "10/3"), (Step.FOUR, "4"),
                (10 ** 63, "1" + "0" * 63), (10 ** 64 - 1, "9" * 64), (10 ** 64, "1" + "0" * 64),
                (10 ** 64 + 5, "1" + "0" * 63 + "5"), ((-10 ** 128 - 1, 10 ** 65), "-1" + "0" * 127 + "1/1" + "0" * 65)):
            self.assertEqual(ratio_text(value), text)
            self.assertIs(type(ratio_text(value)), str)

    def test_ratio_text_of_any_size(self):
        self.assertEqual(ratio_text(10 ** 9000), "1" + "0" * 9000)
        self.assertEqual(ratio_text((-BIG, 10 ** 5000)), "-1" + "0" * 4999 + "7/1" + "0" * 5000)

    def test_one_ratio_wrong(self):
        for value in NO_RATIOS:
            self.assert_bad("ratio", value, floor_of, value)
            self.assert_bad("ratio", value, ratio_text, value)


class TestTwoRatios(RatioCase):

    def test_sums_and_products(self):
        for one in RATIOS:
            for other in RATIOS:
                left, right = fraction(one), fraction(other)
                self.assert_pair(plus(one, other), left + right)
                self.assert_pair(minus(one, other), left - right)
                self.assert_pair(times(one, other), left * right)

    def test_share(self):
        for one in RATIOS:
            for other in RATIOS:
                if fraction(other) == 0:
                    self.assert_bad("divisor", other, share, one, other)
                else:
                    self.assert_pair(share(one, other), fraction(one) / fraction(other))
        self.assertEqual(share(1, -2), (-1, 2))
        self.assertEqual(share((-1, 3), (-5, 6)), (2, 5))

    def test_share_by_nothing_in_any_terms(self):
        for nothing in (0, (0, 1), (0, 7), [0, 1], [0, BIG]):
            for one in (0, 5, (0, 3), [-1, 2]):
                self.assert_bad("divisor", nothing, share, one, nothing)

    def test_lower(self):
        for one in RATIOS:
            for other in RATIOS:
                self.assertIs(lower(one, other), fraction(one) < fraction(other))
        self.assertIs(lower((1, 2), (2, 4)), False)
        self.assertIs(lower((-1, 2), (-1, 3)), True)
        self.assertIs(lower((BIG, BIG + 1), (BIG + 1, BIG + 2)), True)

    def test_the_first_wrong_value_is_told(self):
        for call in (plus, minus, times, share, lower):
            for value in NO_RATIOS:
                self.assert_bad("ratio", value, call, value, 1)
                self.assert_bad("ratio", value, call, value, 0)
                self.assert_bad("ratio", value, call, (1, 2), value)
                for other in ((1, 0), None, "2"):
                    self.assert_bad("ratio", value, call, value, other)

    def test_what_is_passed_stays(self):
        one, other = [4, -6 + 12], [-2, 4]
        for call in (plus, minus, times, share, lower):
            call(one, other)
        told(one, "ratio")
        ratio_text(one)
        floor_of(one)
        self.assertEqual((one, other), ([4, 6], [-2, 4]))


if __name__ == "__main__":
    unittest.main()
