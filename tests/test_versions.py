"""Promise [12]: undo, state, range_of, edits and read, and len, str and == of desks."""

import unittest

from ringwindows.desks import Desk, LogDesk
from ringwindows.fillings import window_range
from ringwindows.logs import Log
from ringwindows.reasons import totals_of
from ringwindows.texts import ring_text
from tests import oracle
from tests.checks import FREE, KINDS, Checks, no_numbers
from tests.oracle import LIMIT, TRIANGLE
from tests.tools import outcome, promptly, same, view

MOST = 10 ** 25


class Versions(Checks):
    def full(self):
        """A desk on which 60 edits stand, of all five names."""
        desk = Desk(2, (FREE,))
        for step in range(12):
            desk.fill(step)
            desk.move(1, -1 if step else 0)
            desk.put((step, 3))
            desk.add((0, 1, 0, 100 + step))
            desk.drop(0)
        self.assertEqual(len(desk), 60)
        return desk

    def test_sixty_edits_and_one_more(self):
        desk = self.full()
        # It comes before everything that is wrong with the values.
        for name, values in (
            ("move", (0, 0)), ("fill", (5,)), ("put", ((0, 0),)), ("add", (FREE,)), ("drop", (0,)),
            ("move", (None, None)), ("move", (0, "x")), ("fill", (-1,)), ("put", ([],)), ("put", ((LIMIT, 0),)),
            ("add", (None,)), ("add", ((0, 1, 5, 0),)), ("drop", (99,)), ("drop", (True,)),
        ):
            self.refused(desk, ("TooManyEdits", {}), getattr(desk, name), *values)
        self.assertEqual([desk.undo(), desk.fill(7), desk.filling], [59, 60, (0, 7)])
        self.refused(desk, ("TooManyEdits", {}), desk.fill, 7)

    def test_undo_down_to_the_beginning_and_once_more(self):
        desk = self.full()
        states = [desk.state(version=version) for version in range(61)]
        edits = desk.edits()
        for version in range(59, -1, -1):
            self.assertEqual(desk.undo(), version)
            self.assertEqual(desk.state(), states[version])
            self.assertEqual((desk.rules, desk.filling), states[version])
            self.assertEqual(desk.totals, totals_of(2, desk.rules))
            self.assertEqual(desk.edits(), edits[:version])
            self.assertEqual([desk.state(version=at) for at in range(version + 1)], states[:version + 1])
        self.refused(desk, ("NothingToUndo", {}), desk.undo)
        self.assertEqual(desk, Desk(2, (FREE,)))

    def test_undo_and_another_edit(self):
        desk = Desk(3, TRIANGLE)
        desk.fill(3)
        desk.drop(0)
        self.assertEqual([desk.undo(), desk.undo(), desk.move(1, -1), desk.drop(2)], [1, 0, 1, 2])
        self.assertEqual(desk.edits(), (("move", 1, -1), ("drop", 2)))
        self.assertEqual(
            [desk.state(version=version) for version in range(3)],
            [(TRIANGLE, (0, 1, 1)), (TRIANGLE, (1, 0, 1)), (TRIANGLE[:2], (1, 0, 1))])
        self.assertEqual(desk.state(version=None), desk.state())

    def test_no_version(self):
        desk = Desk(2, ())
        for version in range(3):
            for value in [value for value in KINDS if value is not None] + [True, False, -1, version + 1, 60]:
                expected = ("NoVersion", {"value": value})
                self.refused(desk, expected, desk.state, version=value)
                # It comes before a place and a size that are wrong.
                for first, size in ((0, 1), (None, None), (2, 1), (0, 3), (True, True)):
                    self.refused(desk, expected, desk.range_of, first, size, version=value)
            desk.fill(version + 1)
        for version in (1, 0, 1):
            desk.state(version=version)
            self.refused(desk, ("NoVersion", {"value": bool(version)}), desk.state, version=bool(version))

    def test_versions_are_passed_by_keyword(self):
        desk = Desk(2, ())
        for call in (lambda: desk.state(0), lambda: desk.range_of(0, 1, 0), lambda: desk.attempt([], None)):
            self.assertRaises(TypeError, call)

    def test_range_of_every_window_and_version(self):
        desk = Desk(4, ((0, 2, 1, 4), (1, 3, 2, 6)))
        desk.fill(5)
        desk.add((3, 1, 0, 4))
        desk.put((1, 2, 2, 1))
        desk.drop(0)
        desk.fill(9)
        for version in (None, 0, 1, 2, 3, 4, 5):
            rules, filling = desk.state(version=version)
            for first in range(4):
                for size in range(1, 5):
                    expected = window_range(4, rules, sum(filling), first, size)
                    self.assertEqual(desk.range_of(first, size, version=version), expected)
                    if version is None:
                        self.assertEqual(desk.range_of(first, size), expected)
        self.assertNotEqual(desk.range_of(0, 1), desk.range_of(0, 1, version=0))

    def test_no_window(self):
        desk = Desk(3, TRIANGLE)
        desk.fill(3)
        for version in (None, 0, 1):
            for value in no_numbers(0, 2) + (True, False, 3):
                for size in (1, 0, None):
                    self.refused(desk, ("NoPlace", {"value": value}), desk.range_of, value, size, version=version)
            for value in no_numbers(1, 3) + (True, False, 0, 4):
                self.refused(desk, ("BadSize", {"value": value}), desk.range_of, 0, value, version=version)
        for first, size in ((1, 1), (0, 1)):
            desk.range_of(first, size)
            self.refused(desk, ("NoPlace", {"value": bool(first)}), desk.range_of, bool(first), size)
            self.refused(desk, ("BadSize", {"value": True}), desk.range_of, first, True)


class Whole(Checks):
    def test_attributes_are_only_read(self):
        desk = LogDesk(3, TRIANGLE)
        for name in ("filling", "total", "totals", "rules", "lines"):
            with self.assertRaises(AttributeError):
                setattr(desk, name, ())
        self.assertTrue(same(view(desk), view(Desk(3, TRIANGLE))))

    def test_results_do_not_change_later(self):
        desk = Desk(3, TRIANGLE)
        desk.fill(3)
        kept = (desk.filling, desk.rules, desk.totals, desk.state(), desk.edits())
        shown = repr(kept)
        for edit in (("drop", 0), ("fill", 2), ("add", FREE)):
            getattr(desk, edit[0])(*edit[1:])
        desk.undo()
        self.assertEqual(repr(kept), shown)

    def test_desks_do_not_share_anything(self):
        one, other = Desk(3, TRIANGLE), Desk(3, TRIANGLE)
        one.fill(3)
        one.drop(0)
        self.assertTrue(same(view(other), view(Desk(3, TRIANGLE))))

    def test_text_of_a_desk(self):
        desk = Desk(1, ())
        self.assertEqual(str(desk), "1 places, 0 rules, total 0, 0 edits")
        desk.fill(1)
        self.assertEqual(str(desk), "1 places, 0 rules, total 1, 1 edits")
        desk.add(FREE)
        self.assertEqual(f"{desk}", "1 places, 1 rules, total 1, 2 edits")
        desk.put((MOST,))
        self.assertEqual(str(desk), f"1 places, 1 rules, total {MOST}, 3 edits")
        self.assertEqual(str(LogDesk(12, (FREE,) * 16)), "12 places, 16 rules, total 0, 0 edits")

    def test_equal_whatever_the_edits_and_logs(self):
        plain, logged = Desk(3, TRIANGLE), LogDesk(3, TRIANGLE)
        self.assertTrue(plain == logged and logged == plain and not plain != logged)
        logged.note("x")
        logged.fill(3)
        self.assertTrue(plain != logged and logged != plain and not logged == plain)
        plain.move(1, 0)
        plain.put((1, 1, 1))
        self.assertTrue(plain == logged and logged == plain)
        plain.drop(2)
        self.assertFalse(plain == logged)
        plain.add(TRIANGLE[2])
        self.assertTrue(plain == logged)
        logged.undo()
        self.assertFalse(plain == logged)
        self.assertTrue(plain == plain and logged == logged)

    def test_other_rings_rules_and_fillings(self):
        self.assertFalse(Desk(1, ()) == Desk(2, ()))
        self.assertFalse(Desk(2, (FREE,)) == Desk(2, ()))
        self.assertFalse(Desk(2, (FREE,)) == Desk(2, (FREE, FREE)))
        self.assertFalse(Desk(2, (FREE,)) == Desk(2, ((1, 1, 0, None),)))
        self.assertFalse(Desk(2, ((0, 1, 1, 2),)) == Desk(2, ((0, 1, 1, 3),)))
        other = Desk(2, ())
        other.fill(1)
        self.assertFalse(Desk(2, ()) == other)
        third = Desk(2, ())
        third.put((1, 0))
        self.assertFalse(third == other)

    def test_not_equal_to_anything_else(self):
        for desk in (Desk(3, TRIANGLE), LogDesk(1, ())):
            for value in KINDS + (desk.filling, desk.rules, desk.state(), str(desk), 0, object(), Desk):
                self.assertIs(desk == value, False)
                self.assertIs(value == desk, False)
                self.assertIs(desk != value, True)

    def test_read(self):
        rings = list(oracle.small_rings())[::4] + list(oracle.great_rings())[::9]
        for n, rules in rings + [(12, ()), (1, (FREE,) * 16)]:
            for some in (Desk, LogDesk):
                found = outcome(promptly, some.read, ring_text(n, rules))
                expected = outcome(some, n, rules)
                self.assertEqual(found, expected)
                if found[0] == "returns":
                    self.assertIs(found[1].__class__, some)
                    self.assertTrue(same(view(found[1]), view(expected[1])))
                else:
                    self.assertEqual(found, ("raises", "Never", {}))
        self.assertEqual(LogDesk.read("2:").lines, ())
        self.assertEqual(LogDesk(3, ()).read("2:").filling, (0, 0))

    def test_read_of_no_ring(self):
        for value, index in (
            (None, None), (5, None), (True, None), (("3:",), None), (["3:"], None), ({"3:": 0}, None),
            ("", 0), ("3", 0), ("13:", 0), ("03:", 0), ("3: 3+1:0..", 1), ("3: 0+1:0..  ", 2), ("3:\n", 0),
            ("1:" + " 0+1:0.." * 17, 17),
            # What is wrong with the text comes before that nothing fits.
            ("1: 0+1:3..2 x", 2),
        ):
            for some in (Desk, LogDesk):
                self.assertTrue(same(outcome(some.read, value), ("raises", "BadText", {"index": index})))
        self.assertEqual(outcome(Desk.read, "1: 0+1:3..2"), ("raises", "Never", {}))

    def test_classes(self):
        self.assertTrue(issubclass(LogDesk, Desk))
        self.assertTrue(issubclass(LogDesk, Log))
        self.assertFalse(issubclass(Desk, Log))


if __name__ == "__main__":
    unittest.main()
