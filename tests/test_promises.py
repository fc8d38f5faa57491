"""Point [58]: promises, and what shows that they are not kept."""

import unittest

import grammar
import papers
import reference as ref
from flowpapers.desk import Desk
from flowpapers.errors import BadText, FlowError, NoName, NotKept, Shared
from flowpapers.norests import leaves_within
from flowpapers.planes import plane_of
from flowpapers.rests import rests
from flowpapers.rooms import AtRest, Turn, kept, turning
from flowpapers.triangles import Near, Under, triangles

TEXT = """
field in1 = -x , -y
field out = x , y
field right = 1 , 0
field cubic = x^3 - x , y
field zero = 0 , 0
field ring = -y + 2*x - x^3 - x*y^2 , x + 2*y - x^2*y - y^3
room box = (-2, -2) (2, -2) (2, 2) (-2, 2)
room turned = (2, 2) (2, -2) (-2, -2) (-2, 2)
room holed = (-2, -2) (2, -2) (2, 2) (-2, 2) hole (-1/2, -1/2) (1/2, -1/2) (1/2, 1/2) (-1/2, 1/2)
room unit = (0, 0) (1, 0) (1, 1) (0, 1)
room edge = (1, -1) (3, -1) (3, 1)
plane px = x
plane p3 = 3*x
plane r2 = x^2 + y^2
plane bump = x^3 - x^2 + 1/3*x
"""

RIGHT = (
    "box keeps all of in1", "  holed keeps all of  ring ", "in1 turns 1 times round box", "out turns -0 times round unit", "cubic turns -1 times round unit",
    "out has 1 rests in box", "cubic has 12345678901234567890 rests in box", "right leaves unit by px in 1", "right leaves unit by p3 in -3/2",
    "r2 never rises in box by in1", "px never  rises in unit by right",
)


class PromiseCase(unittest.TestCase):

    def setUp(self):
        self.desk = Desk(TEXT)

    def assert_kept(self, *promises):
        for promise in promises:
            told = self.desk.kept(promise)
            self.assertEqual((type(told), told), (tuple, (True, None)), promise)
            self.desk.keep(promise)
            self.assertIn(promise, self.desk.promises())

    def broken(self, promise):
        """The witness of a promise that is not kept, as each part of a desk tells it."""
        is_kept, witness = self.desk.kept(promise)
        self.assertIs(is_kept, False)
        ahead = self.desk.promises()
        with self.assertRaises(NotKept) as seen:
            self.desk.keep(promise)
        self.assertEqual(seen.exception.promise, promise)
        self.assertEqual(self.desk.promises(), ahead)
        self.assertEqual(self.plain(seen.exception.witness), self.plain(witness))
        with self.desk as tried:
            tried.keep(promise)
            (told, further), = [pair for pair in tried.broken() if pair[0] == promise]
            self.assertEqual((told, self.plain(further)), (promise, self.plain(witness)))
        return witness

    def plain(self, witness):
        """A witness in a form that can be compared."""
        return (type(witness), vars(witness)) if hasattr(witness, "__dict__") else witness

    def assert_bad_text(self, column, text):
        for call in (self.desk.keep, self.desk.kept):
            with self.assertRaises(BadText) as seen:
                call(text)
            self.assertEqual((seen.exception.column, type(seen.exception.column)), (column, int), text)
        with self.assertRaises(NoName) as seen:
            self.desk.release(text)
        self.assertIs(seen.exception.name, text)


class TestSorts(PromiseCase):

    def test_keeps(self):
        self.assert_kept("box keeps all of in1", "turned keeps all of in1", "holed keeps all of ring", "unit keeps all of zero", " box  keeps all of   zero ")
        for room, field in (("box", "out"), ("unit", "right"), ("holed", "in1"), ("holed", "right")):
            witness = self.broken(f"{room} keeps all of {field}")
            self.assertTrue(papers.is_kept_right(self.desk.get(field), self.desk.get(room), witness))
            self.assertEqual(self.plain(witness), self.plain(kept(self.desk.get(field), self.desk.get(room))))

    def test_turns(self):
        self.assert_kept("in1 turns 1 times round box", "in1 turns 1 times round turned", "in1 turns 1 times round holed", "right turns 0 times round box",
                         "right turns -0 times round box", "out turns 0 times round edge")
        self.desk.put("field saddle = x , -y\nfield two = x^2 - y^2 , 2*x*y")
        self.assert_kept("saddle turns -1 times round box", "saddle turns -1 times round turned", "two turns 2 times round box")
        for promise, number in (("in1 turns -1 times round box", 1), ("in1 turns 0 times round box", 1), ("two turns -2 times round turned", 2),
                                ("saddle turns 1 times round box", -1), ("right turns 10000000000000000000 times round box", 0)):
            witness = self.broken(promise)
            self.assertEqual(self.plain(witness), (Turn, {"number": number}))
        # The first corner comes first, and the row goes against the clock.
        for room, row in (("edge", ((1, -1), (3, -1), (3, 1))), ("turned", ((2, 2), (-2, 2), (-2, -2), (2, -2)))):
            self.desk.put("field rest = x - 2 , y^2 + 1/2*y - 1/2" if room == "edge" else "field rest = x - 2 , y^2 - 2")
            witness = self.broken(f"rest turns 5 times round {room}")
            self.assertIs(type(witness), AtRest)
            self.assertEqual(self.plain(witness), self.plain(turning(self.desk.get("rest"), row, 20)))
        witness = self.broken("zero turns 0 times round box")
        self.assertEqual(self.plain(witness), (AtRest, {"side": 0, "low": (0, 1), "high": (0, 1)}))

    def test_has(self):
        self.assert_kept("out has 1 rests in box", "out has 1 rests in unit", "cubic has 3 rests in box", "cubic has 2 rests in unit", "out has 0 rests in edge",
                         "right has 0 rests in box", "out has 0 rests in holed", "cubic has 2 rests in holed")
        for promise, many in (("out has 0 rests in box", 1), ("cubic has 2 rests in box", 3), ("right has 1 rests in box", 0), ("cubic has 20 rests in unit", 2)):
            self.assertEqual(self.broken(promise), many)
            self.assertIs(type(self.broken(promise)), int)
        self.assertEqual(len(rests(self.desk.get("cubic"), self.desk.get("box"), 20)), 3)
        for call in (self.desk.kept, self.desk.keep):
            with self.assertRaises(Shared) as seen:
                call("zero has 0 rests in box")
            self.assertEqual(seen.exception.plane.degree(), -1)
        self.assertEqual(self.desk.promises(), tuple(
            f"{field} has {many} rests in {room}" for field, many, room in (
                ("out", 1, "box"), ("out", 1, "unit"), ("cubic", 3, "box"), ("cubic", 2, "unit"), ("out", 0, "edge"), ("right", 0, "box"),
                ("out", 0, "holed"), ("cubic", 2, "holed"))))

    def test_leaves(self):
        self.assert_kept("right leaves unit by px in 1", "right leaves unit by px in 4/3", "right leaves unit by p3 in 3", "right leaves box by px in 400/100",
                         "out leaves edge by px in 2")
        for promise, witness in (
            ("right leaves unit by px in 999/1000", ((1, 1),)), ("right leaves unit by p3 in 2", ((3, 1),)), ("right leaves unit by px in -1", ((1, 1),)),
            ("right leaves unit by r2 in 100", ()), ("out leaves unit by px in 100", ()), ("zero leaves box by px in 0", ()), ("in1 leaves edge by px in 2", ()),
            ("right leaves unit by px in 0", ((1, 1),)),
        ):
            self.assertEqual(self.broken(promise), witness)
        room = self.desk.get("unit")
        self.assertEqual(leaves_within(self.desk.get("right"), room, [()] * len(triangles(room)), self.desk.get("px")), (1, 1))

    def test_never(self):
        self.assert_kept("r2 never rises in box by in1", "r2 never rises in holed by in1", "px never rises in unit by zero", "px never rises in edge by in1",
                         "r2 never rises in box by zero")
        witness = self.broken("px never rises in unit by right")
        self.assertIs(type(witness), Under)
        self.assertEqual(witness.number, (-1, 1))
        witness = self.broken("r2 never rises in box by right")
        self.assertIs(type(witness), Under)
        self.assertTrue(self.desk.get("box").has(witness.place))
        self.assertEqual(plane_of("-2*x").at(witness.place), witness.number)
        # The slope is least, 0, at x = 1/3.
        self.desk.put("field left = -1 , 0")
        witness = self.broken("bump never rises in unit by left")
        self.assertIs(type(witness), Near)

    def test_names_of_every_kind(self):
        # One name may stand for an item of each kind, at its time.
        self.desk.put("plane box = x")
        with self.assertRaises(NoName) as seen:
            self.desk.kept("box keeps all of in1")
        self.assertEqual(seen.exception.name, "box")
        self.assert_kept("box never rises in unit by zero")


class TestTexts(PromiseCase):

    def test_right_texts(self):
        for text in RIGHT:
            self.assertIsNone(grammar.column_of(grammar.PROMISE, text), text)
            self.desk.kept(text)

    def test_wrong_texts(self):
        for text, column in (
            ("", 1), ("  ", 3), ("box", 4), ("box ", 5), ("box k", 6), ("box keep all of in1", 9), ("box keepsall of in1", 10), ("box keeps all of", 17),
            ("box keeps all of ", 18), ("box keeps all of in1 x", 22), ("box keeps all of in1.", 21), ("box keeps all of in", 20), ("box keeps all of in ", 20),
            ("keeps keeps all of in1", 6), ("Box keeps all of in1", 1), ("box  holds all of in1", 7), ("1box keeps", 1), ("abcdefghi keeps all of in1", 9),
            ("in1 turns one times round box", 11), ("in1 turns - 1 times round box", 12), ("in1 turns 01 times round box", 12), ("in1 turns +1 times", 11),
            ("in1 turns 123456789012345678901 times round box", 31), ("in1 turns 1times round box", 12), ("in1 turns 1/2 times round box", 12),
            ("in1 turns 1 times box", 19), ("in1 has -1 rests in box", 9), ("in1 has 1 rest in box", 15), ("in1 has 1 rests of box", 17), ("in1 leaves box by px", 21),
            ("in1 leaves box by px in", 24), ("in1 leaves box by px in - 1", 26), ("in1 leaves box by px in 1/0", 27), ("in1 leaves box by px in 1 / 2", 27),
            ("in1 leaves box by px in 1.5", 26), ("in1 leaves box by px in 1,", 26), ("px never rises in box", 22), ("px never rise in box by in1", 14),
            ("px  never rises at box by in1", 17), ("box\tkeeps all of in1", 4), ("box keeps all of in1\n", 21), ("\nbox keeps all of in1", 1), ("x keeps all of in1", 2),
            ("in1 turns", 10), ("in1 turns ", 11), ("in1 turns -", 12), ("box keeps  all  of  by", 23), ("box is kept", 5), ("(box) keeps all of in1", 1),
        ):
            self.assertEqual(grammar.column_of(grammar.PROMISE, text), column, text)
            self.assert_bad_text(column, text)

    def test_texts_changed_by_a_few_signs(self):
        numbers = ref.stream(132)
        right = wrong = 0
        for text in RIGHT:
            for changed in grammar.changes_of(text, numbers, 150):
                column = grammar.column_of(grammar.PROMISE, changed)
                if column is not None:
                    wrong += 1
                    self.assert_bad_text(column, changed)
                else:
                    right += 1
                    try:
                        self.assertEqual(type(self.desk.kept(changed)), tuple)
                    except FlowError as error:
                        self.assertNotIsInstance(error, BadText)
        self.assertTrue(right > 100 and wrong > 800, (right, wrong))

    def test_each_beginning(self):
        for text in RIGHT:
            for end in range(len(text)):
                column = grammar.column_of(grammar.PROMISE, text[:end])
                if column is not None:
                    self.assertEqual(column, end + 1)
                    self.assert_bad_text(end + 1, text[:end])

    def test_what_is_no_string(self):
        for odd in ref.ODD + (5, [], ["box keeps all of in1"], ("box keeps all of in1",), b"box keeps all of in1"):
            if not isinstance(odd, str):
                self.assert_bad_text(0, odd)

    def test_no_names(self):
        for promise, name in (
            ("boxes keeps all of in1", "boxes"), ("in1 keeps all of box", "in1"), ("px keeps all of in1", "px"), ("box keeps all of px", "px"), ("box keeps all of box", "box"),
            ("a keeps all of b", "a"), ("box keeps all of b", "b"), ("a turns 1 times round b", "a"), ("in1 turns 1 times round b", "b"), ("box turns 1 times round box", "box"),
            ("a has 1 rests in b", "a"), ("in1 has 1 rests in in1", "in1"), ("in1 has 1 rests in px", "px"), ("a leaves b by c in 1", "a"), ("in1 leaves b by c in 1", "b"),
            ("in1 leaves box by c in 1", "c"), ("in1 leaves box by box in 1", "box"), ("a never rises in b by c", "a"), ("px never rises in b by c", "b"),
            ("px never rises in box by c", "c"), ("in1 never rises in box by in1", "in1"), ("px never rises in box by px", "px"), ("zero has 5 rests in c", "c"),
        ):
            for call in (self.desk.keep, self.desk.kept):
                with self.assertRaises(NoName) as seen:
                    call(promise)
                self.assertEqual(seen.exception.name, name)
        self.assertEqual(self.desk.promises(), ())


if __name__ == "__main__":
    unittest.main()
