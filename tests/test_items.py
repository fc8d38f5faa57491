"""Point [57]: texts of items, by a desk."""

import unittest

import grammar
import reference as ref
from flowpapers.desk import Desk
from flowpapers.errors import BadLine
from flowpapers.fields import Field
from flowpapers.planes import Plane, plane_of
from flowpapers.rooms import Room

LINES = (
    "field f = x , y", "field  f1=-x^2*y+1/2 ,y", " field a2b3c4d5 = 1 - 2/3*x , 0  ", "plane p = x", "plane q=-7/3*x^12*y^12 + 0*x",
    "room r = (0, 0) (1, 0) (0, 1)", "room r=(0,0)(1,0)(1,1)(0,1)hole(1/4,1/4)(1/2,1/4)(1/4,1/2)",
    "  room  abc  =  ( -1 , -1/2 )  (5/3,-0)  ( 1 ,7 )  ", "room s = (0, 0) (9, 0) (9, 9) (0, 9) hole (1, 1) (2, 1) (1, 2) hole (5, 5) (6, 5) (5, 6)",
    "field f = x + y , x - y", "plane p = 1/2*x*y - 3", "room big = (-9, -9) (9, -9) (9, 9) (-9, 9)", "", "    ",
    "field keepsx = 123456789012345678901234567890*x , 1/123456789012345678901234567890",
)


class ItemCase(unittest.TestCase):

    def assert_bad_line(self, line, column, text):
        for call in (lambda: Desk(text), lambda: Desk(text=text), lambda: Desk().put(text), lambda: Desk("field zzz = 1 , 1").put(text)):
            with self.assertRaises(BadLine) as seen:
                call()
            self.assertEqual((seen.exception.line, seen.exception.column), (line, column), text)
            self.assertEqual((type(seen.exception.line), type(seen.exception.column)), (int, int))


class TestItems(ItemCase):

    def test_each_kind(self):
        desk = Desk("field f = -x , 2*y - 1/2\nplane p = x^2*y\nroom r = (0, 0) (4, 0) (0, 4) hole (1, 1) (2, 1) (1, 2)")
        self.assertEqual(desk.names(), ("f", "p", "r"))
        self.assertEqual(desk.get("f"), Field(plane_of("-x"), plane_of("2*y - 1/2")))
        self.assertEqual(desk.get("p"), plane_of("x^2*y"))
        room, told = Room(((0, 0), (4, 0), (0, 4)), (((1, 1), (2, 1), (1, 2)),)), desk.get("r")
        self.assertEqual((type(told), told.corners, told.holes, told.sides), (Room, room.corners, room.holes, room.sides))
        self.assertEqual((type(desk.get("f")), type(desk.get("p"))), (Field, Plane))

    def test_empty_lines_and_line_ends(self):
        for text in ("plane p = x", "plane p = x\n", "\n\n   \nplane p = x\n \n\n", "\n  plane   p=x  "):
            self.assertEqual((Desk(text).names(), Desk(text).get("p")), (("p",), plane_of("x")))
        for text in ("", "\n", "   ", " \n \n\n"):
            self.assertEqual(Desk(text).names(), ())
        self.assertEqual(Desk().names(), ())

    def test_texts_turned_about(self):
        # The texts that a desk tells stand for the same items.
        text = "\n".join(LINES[k] for k in (0, 2, 3, 6, 7))
        text = text.replace("room r=", "room rr=")
        lines = Desk(text).lines()
        self.assertEqual(Desk(lines).lines(), lines)
        self.assertEqual(lines, (
            "field f = x , y\nfield a2b3c4d5 = 1 - 2/3*x , 0\nplane p = x\n"
            "room rr = (0, 0) (1, 0) (1, 1) (0, 1) hole (1/4, 1/4) (1/2, 1/4) (1/4, 1/2)\nroom abc = (-1, -1/2) (5/3, 0) (1, 7)\n"))
        self.assertEqual(Desk("room r = (6/4,0/7)(-2/2,0)(0,-10/5)").lines(), "room r = (3/2, 0) (-1, 0) (0, -2)\n")
        self.assertEqual(Desk("field f = y^2 + x + x , 2*x - 2*x").lines(), "field f = y^2 + 2*x , 0\n")

    def test_right_lines(self):
        for line in LINES:
            self.assertIsNone(grammar.column_of(grammar.LINE, line), line)
            Desk(line)

    def test_names(self):
        for name in ("a", "z9", "a1234567", "abcdefgh", "xx", "x1", "y0", "fields", "roomy", "ofx", "bye", "hole1", "turn", "rise", "keep"):
            self.assertEqual(Desk(f"plane {name} = x").names(), (name,))
        for name, column in (
            ("x", 8), ("y", 8), ("field", 12), ("room", 11), ("plane", 12), ("hole", 11), ("keeps", 12), ("all", 10), ("of", 9), ("in", 9), ("turns", 12),
            ("times", 12), ("round", 12), ("rests", 12), ("has", 10), ("never", 12), ("rises", 12), ("leaves", 13), ("by", 9), ("abcdefghi", 15),
            ("a12345678", 15), ("1a", 7), ("A", 7), ("aB", 8), ("a_b", 8), ("-a", 7), ("a.b", 8), ("9", 7), ("abcdefghijkl", 15),
        ):
            for text in (f"plane {name} = x", f"plane {name}=x", f"plane {name}"):
                self.assertEqual(grammar.column_of(grammar.LINE, text), column, text)
                self.assert_bad_line(1, column, text)

    def test_wrong_lines(self):
        for line, column in (
            ("f", 2), ("fiel", 5), ("fild f = x , y", 3), ("field", 6), ("field ", 7), ("fieldf = x , y", 6), ("field f", 8), ("field f x , y", 9),
            ("field f = ", 11), ("field f = x", 12), ("field f = x y", 13), ("field f = x ,", 14), ("field f = , y", 11), ("field f = x , y , 1", 17),
            ("field f = x^13 , y", 14), ("field f = x , y^", 17), ("field f = x , 1/0", 17), ("field f = x , 01", 16), ("field f = x , y z", 17),
            ("plane p = x , y", 13), ("plane p = x x", 13), ("plane p == x", 10), ("plane p = 2x", 12), ("plane p = x*x", 13), ("plane p = (x)", 11),
            ("Plane p = x", 1), ("q", 1), (" -", 2), ("x", 1), ("planep = x", 6), ("\tplane p = x", 1), ("plane p = x\t", 12), ("plane\tp = x", 6),
            ("room r = (0, 0) (1, 0)", 23), ("room r = (0, 0) (1, 0)  ", 25), ("room r = (0, 0) (1, 0) hole", 24), ("room r = ", 10), ("room r = (0 0) (1, 0) (0, 1)", 13), ("plane  = x", 8), ("plane=x", 6),
            ("room r = (0, 0) (1, 0) (0, 1) (", 32), ("room r = (0, 0) (1, 0) (0, 1) hole", 35), ("room r = (0, 0) (1, 0) (0, 1) holes", 35),
            ("room r = (0, 0) (1, 0) (0, 1) x", 31), ("room r = (0, 0) (1, 0) (0, 1) hole (1, 1) (2, 2) h", 50), ("room r = (0, - 1)", 15), ("room r = (--1", 12),
            ("room r = (1/0", 13), ("room r = (01", 12), ("room r = (1/ 2", 13), ("room r = (1 / 2", 13), ("room r = (x, 1)", 11), ("room r = (1, 2, 3)", 15),
            ("room r = ((0, 0), (1, 0), (0, 1))", 11), ("room r = (0, 0), (1, 0)", 16), ("room r = (1.5", 12), ("room r = (+1", 11),
            ("room r = (" + "1" * 31, 41), ("room r = (1/" + "1" * 31, 43),
        ):
            self.assertEqual(grammar.column_of(grammar.LINE, line), column, line)
            self.assert_bad_line(1, column, line)
            self.assert_bad_line(3, column, "plane aa = x\n\n" + line + "\nq\n")

    def test_rooms_that_are_none(self):
        for line in (
            "room r = (0, 0) (1, 0) (2, 0)", "room r = (0, 0) (1, 0) (0, 0)", "room r = (0,0)(2,2)(2,0)(0,2)   ", "  room r = (0,0)(1,0)(1,0)(0,1)",
            "room r = (0, 0) (4, 0) (0, 4) hole (1, 1) (2, 2) (3, 3)", "room r = (0, 0) (4, 0) (0, 4) hole (1, 1) (2, 1) (1, 9)",
            "room r = (0, 0) (4, 0) (0, 4) hole (1, 1) (2, 1) (1, 2) hole (1, 1) (2, 1) (1, 2) ", "room r = (0,0)(1,0)(2/2,0/3)",
        ):
            self.assertIsNone(grammar.column_of(grammar.LINE, line))
            self.assert_bad_line(1, len(line) + 1, line)
            self.assert_bad_line(2, len(line) + 1, "\n" + line + "\nplane r = q")

    def test_names_told_already(self):
        for line, column in (
            ("plane p = y", 7), ("  field  p = x , y", 10), ("room p = (0, 0) (1, 0) (2, 0)", 6), ("plane p", 7), ("plane p =", 7), ("plane p = q", 7),
            ("plane p? = x", 7), ("field p1 = x", 13), ("plane pp = x q", 14),
        ):
            self.assert_bad_line(2, column, "plane p = x\n" + line)
        # Names of the desk itself are none of them, and names of other texts.
        desk = Desk("plane p = x")
        desk.put("plane p = y")
        self.assertEqual(desk.get("p"), plane_of("y"))

    def test_the_first_wrong_line_counts(self):
        self.assert_bad_line(2, 7, "plane p = x\nplane p = q\nplane x = y\n")
        self.assert_bad_line(4, 1, "\n\n\nq\n")
        self.assert_bad_line(1, 12, "field f = x\nplane f = x")

    def test_lines_changed_by_a_few_signs(self):
        numbers = ref.stream(131)
        right = wrong = 0
        for line in LINES:
            for changed in grammar.changes_of(line, numbers, 120):
                if "\n" in changed:
                    continue
                column = grammar.column_of(grammar.LINE, changed)
                try:
                    Desk(changed)
                    found = None
                except BadLine as error:
                    self.assertEqual(error.line, 1)
                    found = error.column
                if column is None and found is not None:
                    # The line is right, but the room is none.
                    self.assertEqual(found, len(changed) + 1)
                    self.assertIn("room", changed)
                else:
                    self.assertEqual(found, column, changed)
                right, wrong = right + (found is None), wrong + (found is not None)
        self.assertTrue(right > 100 and wrong > 800, (right, wrong))

    def test_each_beginning(self):
        for line in LINES:
            for end in range(len(line)):
                column = grammar.column_of(grammar.LINE, line[:end])
                if column is not None:
                    self.assertEqual(column, end + 1)
                    self.assert_bad_line(1, end + 1, line[:end])

    def test_what_is_no_string(self):
        for odd in ref.ODD + (5, [], ["plane p = x"], ("plane p = x",), Desk, plane_of("x")):
            if not isinstance(odd, str):
                for call in (lambda: Desk(odd), lambda: Desk(text=odd), lambda: Desk().put(odd)):
                    with self.assertRaises(BadLine) as seen:
                        call()
                    self.assertEqual((seen.exception.line, seen.exception.column), (0, 0))


if __name__ == "__main__":
    unittest.main()
