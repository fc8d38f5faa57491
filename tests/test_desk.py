"""Points [59] to [62]: edits, attempts and trials, and all methods of a desk."""

import unittest

import reference as ref
from flowpapers.desk import Desk
from flowpapers.errors import (
    BadLine, BadName, BadText, FlowError, NoName, NothingToRedo, NothingToUndo, NotKept, Shared, TakenName,
)
from flowpapers.fields import Field
from flowpapers.planes import plane_of
from flowpapers.rooms import Out

TEXT = """field f = -x , -y
room r = (-1, -1) (1, -1) (1, 1) (-1, 1)
plane p = x
"""
KEEPS, TURNS, HAS, LEAVES = "r keeps all of f", "f turns 1 times round r", "f has 1 rests in r", "f leaves r by p in 2"
NO_NAMES = ("x", "y", "field", "room", "plane", "hole", "keeps", "all", "of", "in", "turns", "times", "round", "rests", "has", "never", "rises",
            "leaves", "by", "", "A", "a b", "abcdefghi", "1a", "a_b", " a", "a ", "a\n")


class Stop(Exception):
    """An error of its own kind."""


class DeskCase(unittest.TestCase):

    def setUp(self):
        self.desk = Desk(TEXT)

    def state(self, desk=None):
        """All that a desk tells, and all that can be undone and done again."""
        desk = desk or self.desk
        found = [self.shown(desk)]
        with desk as tried:
            # Within a trial nothing of it can be undone.
            self.assertIs(tried, desk)
        many = 0
        while self.could(desk.undo):
            many += 1
            found.append(self.shown(desk))
        for _ in range(many):
            desk.redo()
        count = 0
        while self.could(desk.redo):
            count += 1
            found.append(("redone", self.shown(desk)))
        for _ in range(count):
            desk.undo()
        return found

    def shown(self, desk):
        return desk.lines(), desk.names(), desk.promises()

    def could(self, call):
        try:
            call()
        except (NothingToUndo, NothingToRedo):
            return False
        return True

    def assert_raises(self, kind, fields, call):
        ahead = self.state()
        with self.assertRaises(kind) as seen:
            call()
        for name, value in fields.items():
            self.assertEqual(getattr(seen.exception, name), value)
        self.assertEqual(self.state(), ahead)
        return seen.exception


class TestMethods(DeskCase):

    def test_put(self):
        self.assertIsNone(self.desk.put("plane q = y\nfield g = 1 , 2\n"))
        self.assertEqual(self.desk.names(), ("f", "r", "p", "q", "g"))
        self.desk.put("plane q = x + y\nroom s = (0, 0) (1, 0) (0, 1)\nfield f = -2*x , -y")
        self.assertEqual(self.desk.names(), ("f", "r", "p", "q", "g", "s"))
        self.assertEqual(self.desk.get("f"), Field(plane_of("-2*x"), plane_of("-y")))
        # In the place of an item of another kind.
        self.desk.put("field q = x , y")
        self.assertEqual((self.desk.names()[3], type(self.desk.get("q"))), ("q", Field))
        self.desk.put("")
        self.assert_raises(BadLine, {"line": 2, "column": 7}, lambda: self.desk.put("plane q = y\nplane q = y"))
        self.assert_raises(BadLine, {"line": 0, "column": 0}, lambda: self.desk.put(None))

    def test_drop(self):
        for promise in (KEEPS, TURNS, HAS):
            self.desk.keep(promise)
        self.desk.put("field g = -x , -y")
        self.desk.keep("r keeps all of g")
        self.assertIsNone(self.desk.drop("p"))
        self.assertEqual((self.desk.names(), self.desk.promises()), (("f", "r", "g"), (KEEPS, TURNS, HAS, "r keeps all of g")))
        self.desk.drop("f")
        self.assertEqual((self.desk.names(), self.desk.promises()), (("r", "g"), ("r keeps all of g",)))
        # The promises come back with it, since this was one edit.
        self.desk.undo()
        self.assertEqual(self.desk.promises(), (KEEPS, TURNS, HAS, "r keeps all of g"))
        self.desk.drop("r")
        self.assertEqual((self.desk.names(), self.desk.promises()), (("f", "g"), ()))

    def test_rename(self):
        odd = "  r   keeps all  of f "
        self.desk.keep(odd)
        self.desk.keep(TURNS)
        self.assertIsNone(self.desk.rename("r", "roomy"))
        self.assertEqual(self.desk.names(), ("f", "roomy", "p"))
        self.assertEqual(self.desk.promises(), ("  roomy   keeps all  of f ", "f turns 1 times round roomy"))
        self.desk.rename("f", "turns2")
        self.assertEqual(self.desk.promises(), ("  roomy   keeps all  of turns2 ", "turns2 turns 1 times round roomy"))
        self.assertEqual(self.desk.broken(), ())
        self.desk.undo()
        self.assertEqual(self.desk.promises(), ("  roomy   keeps all  of f ", "f turns 1 times round roomy"))
        # Letters within words and other names stay.
        desk = Desk("field a = -x , -y\nroom al = (-1, -1) (1, -1) (0, 1)\nplane l = -x^2")
        for promise in ("al keeps all of a", "l never rises in al by a", "a leaves al by l in 1")[:1]:
            desk.keep(promise)
        desk.rename("a", "l2")
        desk.rename("al", "f")
        self.assertEqual(desk.promises(), ("f keeps all of l2",))

    def test_errors_of_rename(self):
        for odd in ref.ODD + NO_NAMES + (5, [], ["a"], ("a",), b"a"):
            if odd not in ("ab",):
                for name in ("f", "none", None):
                    self.assertIs(self.assert_raises(BadName, {}, lambda: self.desk.rename(name, odd)).name, odd)
        for odd in ref.ODD + ("none", "F", "", "f ", 5, ["f"], ("f",)):
            for new in ("a", "f", "r", "zzzzzzz9"):
                self.assertIs(self.assert_raises(NoName, {}, lambda: self.desk.rename(odd, new)).name, odd)
        for name in ("f", "r", "p"):
            for new in ("f", "r", "p"):
                self.assert_raises(TakenName, {"name": new}, lambda: self.desk.rename(name, new))
        self.desk.rename("f", "ab")

    def test_get_and_errors_of_names(self):
        self.assertEqual(self.desk.get("p"), plane_of("x"))
        for odd in ref.ODD + NO_NAMES + ("none", "F", 5, [], ["f"], ("f",), {"f": 1}):
            self.assertIs(self.assert_raises(NoName, {}, lambda: self.desk.get(odd)).name, odd)
            self.assertIs(self.assert_raises(NoName, {}, lambda: self.desk.drop(odd)).name, odd)

    def test_keep_and_release(self):
        self.assertEqual(self.desk.promises(), ())
        self.assertIsNone(self.desk.keep(KEEPS))
        self.desk.keep(TURNS)
        self.assertIsNone(self.desk.keep(KEEPS))
        self.assertEqual(self.desk.promises(), (KEEPS, TURNS))
        # Another text is another promise.
        self.desk.keep(" " + KEEPS)
        self.assertEqual(self.desk.promises(), (KEEPS, TURNS, " " + KEEPS))
        self.assertIsNone(self.desk.release(KEEPS))
        self.assertEqual(self.desk.promises(), (TURNS, " " + KEEPS))
        for odd in ref.ODD + (KEEPS, TURNS + " ", "", "f", None, 5, [TURNS], (TURNS,), {TURNS: 1}):
            self.assertIs(self.assert_raises(NoName, {}, lambda: self.desk.release(odd)).name, odd)
        self.assert_raises(BadText, {"column": 0}, lambda: self.desk.keep(None))
        self.assert_raises(BadText, {"column": 2}, lambda: self.desk.keep("r"))
        self.assert_raises(NoName, {"name": "s"}, lambda: self.desk.keep("s keeps all of f"))
        self.desk.put("field z = x , x*y")
        self.assert_raises(Shared, {}, lambda: self.desk.keep("z has 0 rests in r"))
        error = self.assert_raises(NotKept, {"promise": "r keeps all of z"}, lambda: self.desk.keep("r keeps all of z"))
        self.assertIs(type(error.witness), Out)

    def test_kept_and_broken(self):
        self.assertEqual(self.desk.kept(KEEPS), (True, None))
        self.desk.keep(KEEPS)
        self.assertEqual(self.desk.broken(), ())
        with self.desk as tried:
            tried.keep(HAS)
            tried.keep("f has 3 rests in r")
            tried.keep("f has 4 rests in r")
            self.assertEqual(tried.broken(), (("f has 3 rests in r", 1), ("f has 4 rests in r", 1)))
            tried.put("field f = x - 5 , y")
            self.assertEqual([pair[0] for pair in tried.broken()], [KEEPS, HAS, "f has 3 rests in r", "f has 4 rests in r"])
            self.assertEqual(tried.broken()[1], (HAS, 0))
            tried.put("plane r = x")
            for call in (tried.broken, lambda: tried.kept(KEEPS), lambda: tried.keep(KEEPS)):
                with self.assertRaises(NoName) as seen:
                    call()
                self.assertEqual(seen.exception.name, "r")
        self.assertEqual(type(self.desk.broken()), tuple)

    def test_lines(self):
        self.assertEqual(Desk().lines(), "")
        self.assertEqual(self.desk.lines(), TEXT)
        self.desk.put("room s=(0,0)(4/2,0)(0,-1/3)hole(1/4,-1/30)(1/2,-1/30)(1/4,-1/20)\nfield g=y+x,0-0\nplane q=-1/2*x*y-x^2+7")
        self.assertEqual(self.desk.lines(), TEXT + (
            "room s = (0, 0) (2, 0) (0, -1/3) hole (1/4, -1/30) (1/2, -1/30) (1/4, -1/20)\nfield g = y + x , 0\nplane q = 7 - 1/2*x*y - x^2\n"))
        self.assertEqual(Desk(self.desk.lines()).lines(), self.desk.lines())
        for told in (self.desk.names(), self.desk.promises(), self.desk.broken()):
            self.assertIs(type(told), tuple)

    def test_a_new_desk(self):
        for desk in (Desk(TEXT), Desk(text=TEXT), Desk()):
            with self.assertRaises(NothingToUndo):
                desk.undo()
            with self.assertRaises(NothingToRedo):
                desk.redo()
            self.assertEqual(desk.promises(), ())
        self.assertFalse(Desk() == Desk())


class TestEdits(DeskCase):

    def test_undo_and_redo(self):
        texts = [self.shown(self.desk)]
        for call in (lambda: self.desk.put("plane q = y"), lambda: self.desk.keep(KEEPS), lambda: self.desk.rename("f", "g"), lambda: self.desk.keep("r keeps all of g"),
                     lambda: self.desk.release("r keeps all of g"), lambda: self.desk.drop("r"), lambda: self.desk.put("")):
            call()
            texts.append(self.shown(self.desk))
        for text in texts[-2::-1]:
            self.assertIsNone(self.desk.undo())
            self.assertEqual(self.shown(self.desk), text)
        self.assert_raises(NothingToUndo, {}, self.desk.undo)
        for text in texts[1:]:
            self.assertIsNone(self.desk.redo())
            self.assertEqual(self.shown(self.desk), text)
        self.assert_raises(NothingToRedo, {}, self.desk.redo)

    def test_redo_behind_a_new_edit(self):
        self.desk.put("plane q = y")
        self.desk.put("plane s = y")
        self.desk.undo()
        self.desk.undo()
        # What raises is no edit.
        for call in (lambda: self.desk.put("q"), lambda: self.desk.drop("none"), lambda: self.desk.rename("f", "f"), lambda: self.desk.release("none"),
                     lambda: self.desk.keep("f has 5 rests in r")):
            with self.assertRaises(FlowError):
                call()
        self.desk.redo()
        self.assertEqual(self.desk.names(), ("f", "r", "p", "q"))
        # What changes nothing is one.
        self.desk.put("plane q = y")
        self.assert_raises(NothingToRedo, {}, self.desk.redo)
        self.desk.undo()
        self.desk.undo()
        self.assertEqual(self.desk.names(), ("f", "r", "p"))
        self.desk.redo()
        self.desk.redo()
        self.desk.keep(KEEPS)
        self.desk.keep(KEEPS)
        self.desk.undo()
        self.assertEqual(self.desk.promises(), (KEEPS,))
        self.desk.undo()
        self.assertEqual(self.desk.promises(), ())

    def test_edits_that_break_a_promise(self):
        self.desk.keep(HAS)
        self.desk.keep(KEEPS)
        self.desk.put("plane q = y")
        self.desk.undo()
        error = self.assert_raises(NotKept, {"promise": KEEPS}, lambda: self.desk.put("field f = x , y"))
        self.assertEqual((error.witness.side, type(error.witness)), (0, Out))
        # The first promise that was made counts.
        self.assert_raises(NotKept, {"promise": HAS, "witness": 0}, lambda: self.desk.put("field f = x + 5 , y"))
        self.assert_raises(NotKept, {"promise": HAS, "witness": 0}, lambda: self.desk.put("plane q = x\nroom r = (3, 3) (4, 3) (3, 4)"))
        # It can no longer be asked.
        self.assert_raises(Shared, {}, lambda: self.desk.put("field f = x , 2*x"))
        self.assert_raises(NoName, {"name": "r"}, lambda: self.desk.put("plane r = x"))
        self.assert_raises(NoName, {"name": "f"}, lambda: self.desk.put("plane f = x\nplane r = y"))
        self.desk.put("field f = -3*x , -y")
        self.assertEqual(self.desk.broken(), ())

    def test_several_desks(self):
        other = Desk(TEXT)
        self.desk.put("plane q = y")
        self.desk.keep(KEEPS)
        self.assertEqual((other.names(), other.promises()), (("f", "r", "p"), ()))


class TestAttempts(DeskCase):

    def test_what_it_returns(self):
        told = object()
        self.assertIs(self.desk.attempt(lambda desk: told), told)
        self.assertIs(self.desk.trial(lambda desk: told), told)
        self.assertIs(self.desk.attempt(lambda desk: desk), self.desk)
        self.assertIs(self.desk.trial(lambda desk: desk), self.desk)
        self.assertIsNone(self.desk.attempt(lambda desk: None))

    def test_one_edit(self):
        def action(desk):
            desk.put("plane q = y")
            desk.put("field f = x , y")
            desk.drop("r")
            desk.put("field f = -x , -y\nroom r = (0, 0) (1, 0) (0, 1)")
            return 5
        self.desk.keep(KEEPS)
        ahead = self.shown(self.desk)
        self.assertEqual(self.desk.attempt(action), 5)
        behind = self.shown(self.desk)
        self.assertEqual(behind[1:], (("f", "p", "q", "r"), ()))
        self.desk.undo()
        self.assertEqual(self.shown(self.desk), ahead)
        self.desk.redo()
        self.assertEqual(self.shown(self.desk), behind)
        # Also if it changes nothing.
        self.desk.undo()
        self.desk.attempt(lambda desk: None)
        self.assert_raises(NothingToRedo, {}, self.desk.redo)
        self.desk.undo()
        self.assertEqual(self.shown(self.desk), ahead)

    def test_promises_are_looked_at_at_its_end(self):
        self.desk.keep(KEEPS)

        def mend(desk):
            desk.put("field f = x , y")
            self.assertEqual([pair[0] for pair in desk.broken()], [KEEPS])
            self.assertIs(desk.kept(KEEPS)[0], False)
            desk.put("room r = (0, 0) (1, 0) (0, 1)\nfield f = -x , -y")
        self.desk.attempt(mend)

        def break_it(desk):
            desk.keep("f has 7 rests in r")
            desk.put("field f = x , y")
        self.assert_raises(NotKept, {"promise": KEEPS}, lambda: self.desk.attempt(break_it))
        self.assert_raises(NotKept, {"promise": "f has 7 rests in r", "witness": 1}, lambda: self.desk.attempt(lambda desk: desk.keep("f has 7 rests in r")))
        self.assert_raises(NoName, {"name": "f"}, lambda: self.desk.attempt(lambda desk: desk.put("plane f = x")))
        self.assert_raises(Shared, {}, lambda: self.desk.attempt(lambda desk: (desk.put("field f = x , y"), desk.keep(HAS), desk.put("field f = 0 , 0"))))

    def test_errors_of_keep_at_once(self):
        def action(desk):
            for text, kind in (("no", BadText), (None, BadText), ("r keeps all of g", NoName), ("z has 1 rests in r", Shared)):
                with self.assertRaises(kind):
                    desk.keep(text)
            desk.keep("f has 7 rests in r")
            desk.release("f has 7 rests in r")
            with self.assertRaises(NoName):
                desk.release("f has 7 rests in r")
        self.desk.put("field z = x , x")
        self.desk.attempt(action)
        self.desk.trial(action)
        with self.desk as tried:
            action(tried)

    def test_errors_of_whatever_kind(self):
        self.desk.put("plane q = y")
        self.desk.undo()

        def failing(error):
            def action(desk):
                desk.put("plane s = y")
                desk.drop("f")
                desk.undo()
                raise error
            return action
        for error in (Stop("a"), ValueError(1), KeyboardInterrupt(), SystemExit(3), NoName("x"), KeyError("k"), GeneratorExit(), StopIteration()):
            ahead = self.state()
            for call in (self.desk.attempt, self.desk.trial):
                with self.assertRaises(type(error)) as seen:
                    call(failing(error))
                self.assertIs(seen.exception, error)
                self.assertEqual(self.state(), ahead)
            with self.assertRaises(type(error)) as seen:
                with self.desk as tried:
                    failing(error)(tried)
            self.assertIs(seen.exception, error)
            self.assertEqual(self.state(), ahead)
        self.assert_raises(TypeError, {}, lambda: self.desk.attempt(5))
        self.assert_raises(TypeError, {}, lambda: self.desk.trial(None))

    def test_within_each_other(self):
        self.desk.keep(KEEPS)

        def inner(desk):
            desk.put("field f = x , y")
            return "inner"

        def outer(desk):
            # No promises at the end of an attempt that stands within another one.
            self.assertEqual(desk.attempt(inner), "inner")
            self.assertEqual([pair[0] for pair in desk.broken()], [KEEPS])
            desk.undo()
            self.assertEqual(desk.broken(), ())
            with self.assertRaises(NothingToUndo):
                desk.undo()
            desk.redo()
            with self.assertRaises(Stop):
                desk.attempt(self.fails)
            self.assertEqual([pair[0] for pair in desk.broken()], [KEEPS])
            desk.trial(lambda tried: tried.drop("f"))
            self.assertIn("f", desk.names())
            desk.undo()
            desk.put("plane q = y")
        ahead = self.shown(self.desk)
        self.desk.attempt(outer)
        self.assertEqual(self.desk.names(), ("f", "r", "p", "q"))
        self.desk.undo()
        self.assertEqual(self.shown(self.desk), ahead)
        # Nor at the end of one that stands within a trial.
        self.desk.trial(lambda tried: tried.attempt(inner))
        with self.desk as tried:
            tried.attempt(inner)
            self.assertEqual(len(tried.broken()), 1)
            tried.undo()
            self.assertEqual(len(tried.broken()), 0)
            with tried as deeper:
                self.assertIs(deeper, self.desk)
                deeper.drop("r")
                with self.assertRaises(NothingToRedo):
                    deeper.redo()
            tried.redo()
            self.assertEqual(len(tried.broken()), 1)
        self.assertEqual(self.shown(self.desk), ahead)

    def fails(self, desk):
        desk.drop("r")
        raise Stop()

    def test_trials_leave_all_as_it_was(self):
        for text in ("plane q = y", "plane s = y", "plane t = y"):
            self.desk.put(text)
        self.desk.undo()
        ahead = self.state()
        self.assertEqual(len(ahead), 4)

        def action(desk):
            with self.assertRaises(NothingToUndo):
                desk.undo()
            with self.assertRaises(NothingToRedo):
                desk.redo()
            desk.put("field f = x , y\nplane new = 1")
            desk.keep("r keeps all of f")
            desk.rename("r", "rr")
            desk.undo()
            desk.undo()
            desk.redo()
            self.assertEqual(desk.promises(), ("r keeps all of f",))
            self.assertEqual([pair[0] for pair in desk.broken()], ["r keeps all of f"])
            return desk.names()
        self.assertEqual(self.desk.trial(action), ("f", "r", "p", "q", "s", "new"))
        self.assertEqual(self.state(), ahead)
        with self.desk as tried:
            action(tried)
        self.assertEqual(self.state(), ahead)

    def test_undo_within_an_attempt_knows_its_own_edits(self):
        self.desk.put("plane q = y")

        def action(desk):
            with self.assertRaises(NothingToUndo):
                desk.undo()
            desk.put("plane s = y")
            desk.put("plane t = y")
            desk.undo()
            desk.undo()
            desk.redo()
            with self.assertRaises(NothingToUndo):
                desk.undo()
                desk.undo()
            desk.redo()
            desk.redo()
            with self.assertRaises(NothingToRedo):
                desk.redo()
        self.desk.attempt(action)
        self.assertEqual(self.desk.names(), ("f", "r", "p", "q", "s", "t"))
        self.desk.undo()
        self.assertEqual(self.desk.names(), ("f", "r", "p", "q"))
        self.desk.undo()
        self.assertEqual(self.desk.names(), ("f", "r", "p"))


class Model:
    """A desk of numbered states: lists of them, one for each attempt or trial that is open."""

    def __init__(self, state):
        self.levels = [[[], state, []]]

    def edit(self, state):
        level = self.levels[-1]
        level[0], level[1], level[2] = level[0] + [level[1]], state, []


class TestMixedCalls(DeskCase):
    """Edits in mixed order, within each other, beside a model of states."""

    def test_mixed_calls(self):
        for seed in range(12):
            self.numbers = ref.stream(140 + seed)
            desk = Desk(TEXT)
            model = Model((("f", "r", "p"), ()))
            for _ in range(25):
                self.step(desk, model, 3)
                self.check(desk, model)

    def check(self, desk, model):
        self.assertEqual((desk.names(), desk.promises()), model.levels[-1][1])

    def step(self, desk, model, depth):
        level, kind = model.levels[-1], next(self.numbers) % (10 if depth else 7)
        names, promises = level[1]
        fresh = "q" + str(next(self.numbers) % 4)
        if kind == 0:
            desk.put(f"plane {fresh} = x")
            model.edit((names if fresh in names else names + (fresh,), promises))
        elif kind == 1 and fresh in names:
            desk.drop(fresh)
            model.edit((tuple(name for name in names if name != fresh), tuple(text for text in promises if f" {fresh} " not in f" {text} ")))
        elif kind == 2:
            text = " " * (next(self.numbers) % 2) + KEEPS
            desk.keep(text)
            model.edit((names, promises if text in promises else promises + (text,)))
        elif kind == 3 and promises:
            text = promises[next(self.numbers) % len(promises)]
            desk.release(text)
            model.edit((names, tuple(one for one in promises if one != text)))
        elif kind == 4 and level[0]:
            desk.undo()
            level[0], level[1], level[2] = level[0][:-1], level[0][-1], [level[1]] + level[2]
        elif kind == 5 and level[2]:
            desk.redo()
            level[0], level[1], level[2] = level[0] + [level[1]], level[2][0], level[2][1:]
        elif kind == 6 and promises:
            outside = len(model.levels) == 1
            if outside:
                with self.assertRaises(NotKept):
                    desk.put("field f = x , y")
        elif kind >= 7:
            self.open(desk, model, depth, kind)

    def open(self, desk, model, depth, kind):
        fails = next(self.numbers) % 3 == 0
        model.levels.append([[], model.levels[-1][1], []])

        def action(tried):
            for _ in range(next(self.numbers) % 5):
                self.step(tried, model, depth - 1)
                self.check(tried, model)
            if fails:
                raise Stop()
        try:
            if kind == 7:
                desk.attempt(action)
            elif kind == 8:
                desk.trial(action)
            else:
                with desk as tried:
                    action(tried)
        except Stop:
            self.assertTrue(fails)
        level = model.levels.pop()
        if kind == 7 and not fails:
            model.edit(level[1])


if __name__ == "__main__":
    unittest.main()
