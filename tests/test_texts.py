"""Point [7]: texts of planes."""

import re
import unittest
from fractions import Fraction
from itertools import product

import reference as ref
from flowpapers.errors import BadText
from flowpapers.planes import Plane, plane_of, plane_text

WHOLE = "(?:0|[1-9][0-9]{0,29})"
NUMBER = f"{WHOLE}(?:/[1-9][0-9]{{0,29}})?"
POWER = r"(?:\^(?:1[0-2]|[0-9]))?"
LETTERS = f"(?:x{POWER}(?: *[*] *y{POWER})?|y{POWER})"
TERM = f"(?:{NUMBER}(?: *[*] *{LETTERS})?|{LETTERS})"
TEXT = re.compile(f" *(?:- *)?{TERM}(?: *[+-] *{TERM})* *")

# One of these ends stands behind each beginning of a text such that all of it is a text.
ENDS = ("", "1", "x", "y")


def is_beginning(text):
    return any(TEXT.fullmatch(text + end) for end in ENDS)


def column(text):
    """The column of BadText, None for a text of a plane."""
    if TEXT.fullmatch(text):
        return None
    return 1 + max(k for k in range(len(text) + 1) if is_beginning(text[:k]))


def meant(text, x, y):
    """The value that a text stands for at a point."""
    with_fractions = re.sub(r"([0-9]+)", r"Fraction(\1)", text.replace("^", "**").strip(" "))
    return eval(with_fractions, {"Fraction": Fraction, "x": x, "y": y})


class TestPlaneOf(unittest.TestCase):

    def check(self, text):
        """Whether the program reads a text as the expression above does."""
        expected = column(text)
        if expected is not None:
            with self.assertRaises(BadText) as seen:
                plane_of(text)
            self.assertEqual((text, seen.exception.column), (text, expected))
            self.assertIs(type(seen.exception.column), int)
            return False
        plane = plane_of(text)
        self.assertIs(type(plane), Plane)
        for x, y in ((Fraction(2), Fraction(3)), (Fraction(-1, 2), Fraction(5, 7)), (Fraction(11), Fraction(-13))):
            self.assertEqual(plane.at((ref.pair(x), ref.pair(y))), ref.pair(meant(text, x, y)), text)
        return True

    def test_known_texts(self):
        for text, rows in (
            ("0", ()), ("1", ((1,),)), ("-1", ((-1,),)), ("x", ((), (1,))), ("y", ((0, 1),)), ("-y", ((0, -1),)),
            ("x*y", ((), (0, 1))), ("3/6", (((1, 2),),)), ("2*x^2*y^3", ((), (), (0, 0, 0, 2))), ("x^12", ((),) * 12 + ((1,),)),
            ("y^10 + x^0*y^0 + x^1", ((1,) + (0,) * 9 + (1,), (1,))), ("x - x", ()), ("0*x^5", ()), ("x+x+1/2*x", ((), ((5, 2),))),
            ("1 + 2*y - 3 + x - y", ((-2, 1), (1,))), (" -  1/3 ", (((-1, 3),),)), ("10*y^11", ((0,) * 11 + (10,),)),
            ("y + x", ((0, 1), (1,))), ("2*x*y+3*x*y", ((), (0, 5))), ("0/7", ()), ("1/2 - 1/2*y", (((1, 2), (-1, 2)),)),
        ):
            self.assertEqual(plane_of(text).rows, Plane(rows).rows, text)

    def test_spaces_wherever_they_may_stand(self):
        rows = plane_of("-2*x^2*y+1/3*y^3-x*y+7-y").rows
        for gap in (" ", "  ", "     "):
            signs = ["-", "2", "*", "x^2", "*", "y", "+", "1/3", "*", "y^3", "-", "x", "*", "y", "+", "7", "-", "y"]
            for k in range(len(signs) + 1):
                self.assertEqual(plane_of("".join(signs[:k]) + gap + "".join(signs[k:])).rows, rows)
            self.assertEqual(plane_of(gap + gap.join(signs) + gap).rows, rows)

    def test_spaces_where_none_may_stand(self):
        for text, at in (
            ("1 2", 3), ("1 /2", 3), ("1/ 2", 3), ("x ^2", 3), ("x^ 2", 3), ("x^1 2", 5), ("x y", 3), ("1 0*x", 3), ("2 x", 3),
            ("- 1 1", 5), ("y^1 1", 5), ("\tx", 1), ("x\n", 2), ("x +\ty", 4), ("x\r\n", 2), ("1\t+ 1", 2),
        ):
            self.assert_column(text, at)
            self.check(text)

    def assert_column(self, text, at):
        with self.assertRaises(BadText) as seen:
            plane_of(text)
        self.assertEqual((text, seen.exception.column), (text, at))

    def test_columns_of_known_wrong_texts(self):
        for text, at in (
            ("", 1), (" ", 2), ("    ", 5), ("-", 2), ("- ", 3), ("+", 1), ("+x", 1), ("--x", 2), ("- -x", 3), ("x--y", 3),
            ("x + + y", 5), ("x - - y", 5), ("x +", 4), ("x + ", 5), ("x^13", 4), ("x^20", 4), ("y^120", 5), ("x^01", 4),
            ("x^00", 4), ("x^-1", 3), ("x^", 3), ("x^y", 3), ("01", 2), ("00", 2), ("-01", 3), ("1/0", 3), ("1/00", 3), ("1/", 3),
            ("1/-2", 3), ("1//2", 3), ("1/2/3", 4), ("/2", 1), ("1/01", 3), ("1/x", 3), ("y*x", 2), ("2*y*x", 4), ("x*x", 3),
            ("y*y", 2), ("x*2", 3), ("2*3", 3), ("2*", 3), ("2**x", 3), ("x*", 3), ("x*y*y", 4), ("2x", 2), ("xy", 2), ("x2", 2),
            ("X", 1), ("z", 1), ("(x)", 1), ("x=y", 2), ("1.5", 2), ("1,5", 2), ("x^2^2", 4), ("*x", 1), ("x ^ 2", 3), ("~", 1),
            ("1" * 31, 31), ("x + " + "9" * 31, 35), ("1/" + "7" * 31, 33), ("0" + "1" * 30, 2), ("-" + "1" * 32 + "*x", 32),
            ("1" * 30 + "0", 31), ("1" * 30 + "/" + "1" * 30 + "/", 62), ("x*y^13", 6), ("x*y^12*", 7),
        ):
            self.assert_column(text, at)
            self.check(text)

    def test_numbers_of_thirty_digits(self):
        for text in ("9" * 30, "1/" + "9" * 30, "1" + "0" * 29 + "/" + "3" * 30 + "*x", "x-" + "8" * 30 + "*y^12"):
            self.assertTrue(self.check(text), text)

    def test_all_short_texts(self):
        found = 0
        for many in range(5):
            for signs in product(" x*y^+-/012", repeat=many):
                found += self.check("".join(signs))
        self.assertGreater(found, 500)

    def test_texts_with_one_sign_changed(self):
        numbers = ref.stream(6)
        texts = (
            "-12/5*x^10*y + 3 - x*y^2 + 0*x", "x", " 1 - 1/1000000007 * y^12  ", "x^12*y^12-x^0*y^0+y^0",
            "5*x^2 * y^11 - 30/7 + x^3 - 2 * x ", "-" + "1234567890" * 3 + "*x + y^9 - 4/5*x^1*y^1",
        )
        signs = " x*y^+-/0123456789az().\t\n"
        for text in texts:
            self.check(text)
            for k in range(len(text) + 1):
                self.check(text[:k])
                self.check(text[:k] + text[k + 1:])
                for _ in range(6):
                    sign = signs[next(numbers) % len(signs)]
                    self.check(text[:k] + sign + text[k + 1:])
                    self.check(text[:k] + sign + text[k:])

    def test_terms_in_any_order(self):
        terms = ["3*x^2", "1/2*x*y", "y^4", "7", "5*x^2", "2/3", "x*y"]
        numbers = ref.stream(7)
        for _ in range(200):
            mixed, text = list(terms), ""
            while mixed:
                sign = ("+", "-")[next(numbers) % 2] if text else ("", "-")[next(numbers) % 2]
                text += sign + mixed.pop(next(numbers) % len(mixed))
            self.assertTrue(self.check(text))

    def test_many_terms(self):
        self.assertEqual(plane_of("x" + "+x" * 999).rows, ((), ((1000, 1),)))
        self.assertEqual(plane_of("-".join(["1/3*x^2*y"] * 500)).rows, ((), (), ((0, 1), (-166, 1))))

    def test_values_that_are_no_strings(self):
        for value in (None, True, 0, 1, b"x", ("x",), ["x"], {"x": 1}, 1.5, object(), Plane(((1,),)), str, (), {"x"}):
            self.assert_column(value, 0)


class TestPlaneText(unittest.TestCase):

    def test_known_texts(self):
        for rows, text in (
            ((), "0"), (((0,), (0, 0)), "0"), (((1,),), "1"), (((-1,),), "-1"), ((((-2, 6),),), "-1/3"), (((0, 1),), "y"),
            (((0, -1),), "-y"), (((), (1,)), "x"), (((), (-1,)), "-x"), (((), (0, 1)), "x*y"), (((), (0, -1)), "-x*y"),
            (((), (0, (2, 4))), "1/2*x*y"), (((), (), (0, 0, 1)), "x^2*y^2"), (((0, 0, 0, 2),), "2*y^3"),
            (((1, 1, 1), (1, 1), (1,)), "1 + y + y^2 + x + x*y + x^2"),
            (((-1, -1, -1), (-1, -1), (-1,)), "-1 - y - y^2 - x - x*y - x^2"),
            (((0, 0, 3), (), (0, (-5, 7), -1), (1,)), "3*y^2 - 5/7*x^2*y - x^2*y^2 + x^3"),
            (((0, (1, 2)), (-3, 0, 1)), "1/2*y - 3*x + x*y^2"), (((-1, 1), (1,)), "-1 + y + x"),
            (((),) * 12 + ((0,) * 12 + (-1,),), "-x^12*y^12"), (((), (), (-10, 11)), "-10*x^2 + 11*x^2*y"),
            (((-11, (1, 11)),), "-11 + 1/11*y"),
        ):
            self.assertEqual(plane_text(Plane(rows)), text)

    def test_long_numbers(self):
        big = 10 ** 5000
        self.assertEqual(plane_text(Plane(((0, -big), ((1, big),)))),
                         "-1" + "0" * 5000 + "*y + 1/1" + "0" * 5000 + "*x")

    def test_forth_and_back(self):
        numbers = ref.stream(8)
        for k in range(150):
            plane = Plane(ref.mixed_rows(numbers, k % 13, 1 + 10 ** (k % 29)))
            text = plane_text(plane)
            self.assertTrue(plane_of(text) == plane)
            self.assertEqual(plane_text(plane_of(text)), text)
            self.assertIs(type(text), str)

    def test_each_sign(self):
        for i, j in product(range(4), repeat=2):
            letters = [letter + (f"^{power}" if power > 1 else "") for letter, power in (("x", i), ("y", j)) if power]
            for top, bottom in ((1, 1), (2, 1), (1, 2), (3, 2)):
                number = str(top) + (f"/{bottom}" if bottom > 1 else "")
                text = "*".join(([] if letters and number == "1" else [number]) + letters)
                for sign, ahead in ((1, ""), (-1, "-")):
                    plane = Plane([[]] * i + [[0] * j + [(sign * top, bottom)]])
                    self.assertEqual(plane_text(plane), ahead + text)
                    self.assertEqual(plane_text(plane + Plane([[]] * 4 + [[-1]])), ahead + text + " - x^4")


if __name__ == "__main__":
    unittest.main()
