"""Promise [13]: logs, and desks that note their edits and undos."""

import unittest

from ringwindows.desks import Desk, LogDesk
from ringwindows.errors import RingError
from ringwindows.logs import Log
from tests.checks import FREE, KINDS
from tests.oracle import TRIANGLE
from tests.test_attempts import GOOD, RAISING, Stop
from tests.tools import outcome, promptly, same, view

NO_TEXTS = [value for value in KINDS if type(value) is not str] + [0, 1, b"a", ("a",), ["a"], 3.5]


class Logs(unittest.TestCase):
    def test_example(self):
        log = Log()
        self.assertEqual([log.note("a"), log.note("b"), log.lines], [1, 2, ("a", "b")])

    def test_the_last_eight(self):
        for some in (Log(), LogDesk(3, TRIANGLE)):
            self.assertTrue(same(some.lines, ()))
            texts = [f"text {at}" for at in range(30)]
            for at, text in enumerate(texts):
                self.assertTrue(same(some.note(text), at + 1))
                self.assertTrue(same(some.lines, tuple(texts[max(0, at - 7):at + 1])))

    def test_texts(self):
        log = Log()
        for text in ("", " ", "\n", "a" * 99, "a" * 100, "\n" * 100, "same", "same", "~ !"):
            log.note(text)
            self.assertEqual(log.lines[-1], text)
        self.assertEqual(log.lines[-3:], ("same", "same", "~ !"))

    def test_no_notes(self):
        for some in (Log(), LogDesk(3, TRIANGLE)):
            some.note("first")
            for value in NO_TEXTS + ["a" * 101, "a" * 2000, "\n" * 101]:
                found = outcome(promptly, some.note, value)
                self.assertTrue(same(found, ("raises", "BadNote", {"value": value})), value)
                self.assertIs(found[2]["value"], value)
                self.assertEqual(some.lines, ("first",))
            # What was refused is not among those that were added.
            self.assertEqual(some.note("second"), 2)
            with self.assertRaises(RingError):
                some.note(None)

    def test_logs_do_not_share_anything(self):
        one, other = Log(), Log()
        one.note("a")
        self.assertEqual((other.lines, other.note("b"), other.lines, one.lines), ((), 1, ("b",), ("a",)))

    def test_lines_do_not_change_later(self):
        log = Log()
        log.note("a")
        lines = log.lines
        log.note("b")
        self.assertEqual(lines, ("a",))
        with self.assertRaises(AttributeError):
            log.lines = ()


class LogDesks(unittest.TestCase):
    def test_example(self):
        desk = LogDesk(3, TRIANGLE)
        self.assertEqual(
            [desk.fill(3), desk.undo(), desk.note("x"), desk.lines], [1, 0, 3, ("fill", "undo", "x")])

    def test_each_edit_and_undo(self):
        desk = LogDesk(3, TRIANGLE)
        for many, (name, *values) in enumerate(GOOD):
            self.assertEqual(getattr(desk, name)(*values), many + 1)
            self.assertEqual(desk.lines, tuple(edit[0] for edit in GOOD[:many + 1]))
        for step in range(len(GOOD)):
            desk.undo()
        self.assertEqual(desk.lines, ("put", "put") + ("undo",) * 6)
        self.assertEqual(desk.note("x"), 13)
        self.assertEqual(desk.edits(), ())

    def test_a_note_is_no_edit(self):
        desk = LogDesk(3, TRIANGLE)
        for step in range(70):
            desk.note("x")
        self.assertTrue(same(view(desk), view(Desk(3, TRIANGLE))))
        self.assertEqual(outcome(desk.undo), ("raises", "NothingToUndo", {}))
        self.assertEqual(desk.note("x"), 71)

    def test_refused_edits_note_nothing(self):
        desk = LogDesk(3, TRIANGLE)
        desk.note("x")
        for name, *values in RAISING:
            self.assertEqual(outcome(getattr(desk, name), *values)[0], "raises")
        outcome(desk.undo)
        outcome(desk.state, version=9)
        outcome(desk.range_of, 9, 9)
        outcome(desk.attempt, None)
        outcome(desk.attempt, [None])
        desk.attempt([])
        self.assertEqual((desk.lines, desk.note("y")), (("x",), 2))
        for step in range(60):
            desk.fill(2)
        noted = desk.note("full")
        for call in (lambda: desk.fill(2), lambda: desk.attempt([("fill", 2)])):
            self.assertEqual(outcome(call)[0], "raises")
        self.assertEqual(desk.note("end"), noted + 1)
        self.assertEqual(desk.lines, ("fill",) * 6 + ("full", "end"))

    def test_batches(self):
        desk = LogDesk(3, TRIANGLE)
        desk.note("x")
        self.assertEqual(desk.attempt(GOOD), 6)
        self.assertEqual(desk.lines, ("x", "fill", "drop", "move", "add", "put", "put"))
        desk.undo()
        self.assertEqual((desk.lines[-1], desk.note("y")), ("undo", 9))
        desk = LogDesk(3, TRIANGLE)
        self.assertEqual([desk.attempt([("move", 1, 0)] * 20), desk.note("x")], [20, 21])
        self.assertEqual(desk.lines, ("move",) * 7 + ("x",))

    def test_notes_of_a_watch_come_before(self):
        desk = LogDesk(3, TRIANGLE)

        def watch(watched):
            self.assertEqual(watched.note(f"seen {len(watched)}"), len(watched) + 1)
            self.assertEqual(watched.lines[-1], f"seen {len(watched)}")

        desk.note("x")
        desk.attempt([("fill", 3), ("drop", 0), ("move", 1, 0)], watch=watch)
        self.assertEqual(desk.lines, ("x", "seen 1", "seen 2", "seen 3", "fill", "drop", "move"))
        self.assertEqual(desk.note("y"), 8)

    def test_notes_of_a_watch_stay(self):
        def raising(watched):
            watched.note("seen")
            if len(watched) == 2:
                raise Stop()

        for watch, edits, error in (
            (lambda watched: watched.note("seen"), [("fill", 3), ("drop", 0), ("drop", 9), ("fill", 3)], "Rejected"),
            (raising, [("fill", 3), ("drop", 0), ("fill", 3)], "Stop"),
            (lambda watched: watched.note("seen") and len(watched) == 2 and watched.undo(), GOOD, "Busy"),
        ):
            desk = LogDesk(3, TRIANGLE)
            desk.note("x")
            before = view(desk)
            self.assertEqual(outcome(desk.attempt, edits, watch=watch)[1], error)
            self.assertEqual((desk.lines, desk.note("y")), (("x", "seen", "seen"), 4))
            self.assertTrue(same(view(desk), before))

    def test_a_note_that_watch_cannot_make(self):
        desk = LogDesk(3, TRIANGLE)
        found = outcome(desk.attempt, [("fill", 3)], watch=lambda watched: watched.note(5))
        self.assertEqual(found, ("raises", "BadNote", {"value": 5}))
        self.assertEqual((desk.lines, len(desk)), ((), 0))

    def test_refused_while_a_watch_runs(self):
        desk = LogDesk(3, TRIANGLE)
        desk.attempt([("fill", 3)], watch=lambda watched: outcome(watched.fill, 2) and outcome(watched.undo))
        self.assertEqual((desk.lines, desk.note("x")), (("fill",), 2))

    def test_raises_what_a_desk_raises(self):
        for n, rules in ((0, ()), (True, ()), (3, None), (3, (FREE, 5)), (1, ((0, 1, 3, 2),)), (13, None)):
            self.assertEqual(outcome(LogDesk, n, rules), outcome(Desk, n, rules))
            self.assertEqual(outcome(LogDesk, n, rules)[0], "raises")

    def test_two_log_desks(self):
        one, other = LogDesk(3, TRIANGLE), LogDesk(3, TRIANGLE)
        one.attempt([("fill", 3)], watch=lambda watched: other.fill(3))
        self.assertEqual((one.lines, other.lines, one == other), (("fill",), ("fill",), True))
        one.undo()
        self.assertEqual((one.lines, other.lines), (("fill", "undo"), ("fill",)))

    def test_it_answers_as_a_desk_does(self):
        plain, logged = Desk(3, TRIANGLE), LogDesk(3, TRIANGLE)
        for name, *values in GOOD + RAISING + GOOD:
            found = outcome(getattr(plain, name), *values)
            self.assertTrue(same(outcome(getattr(logged, name), *values), found))
            self.assertTrue(same(view(logged), view(plain)))


if __name__ == "__main__":
    unittest.main()
