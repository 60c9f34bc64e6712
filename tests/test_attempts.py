"""Promise [12]: attempt, which does all edits of a batch or none, and its watch."""

import unittest

from ringwindows.desks import Desk, LogDesk
from ringwindows.errors import Busy, NoPlace, Rejected, RingError
from ringwindows.fillings import window_range
from ringwindows.reasons import totals_of
from tests.checks import FREE, KINDS, Checks
from tests.oracle import LIMIT, TRIANGLE
from tests.tools import outcome, promptly, same, view

MOST = 10 ** 25

# On a desk of the triangle: edits that can be done one after another.
GOOD = (
    ("fill", 3), ("drop", 1), ("move", 1, 1), ("add", (0, 3, 3, 3)), ("put", (0, 1, 2)), ("put", (1, 1, 1)),
)

# Edits that raise an error on the desk of a triangle, however it was filled.
RAISING = (
    ("move", None, 1), ("move", 3, 0), ("move", True, 0), ("move", 0, None), ("move", 0, LIMIT + 1), ("move", 0, False),
    ("move", 0, LIMIT), ("move", 1, -7), ("fill", 4), ("fill", True), ("fill", MOST + 1), ("fill", [2]),
    ("put", [1, 1, 1]), ("put", (1, 1)), ("put", (1, True, 1)), ("put", (3, 0, 0)), ("put", (MOST + 1, 0, 0)),
    ("add", None), ("add", (0, 1, 5, 9)), ("add", [0, 1, 0, 9]), ("add", (0, True, 0, 9)), ("drop", 3), ("drop", -1),
    ("drop", True), ("drop", "0"), ("drop", {"a": 0}),
)

# Items that are no edits.
NO_EDITS = KINDS + (
    ("fill",), ("fill", 3, 3), ("move", 1), ("move", 1, 1, 1), ("put",), ("put", 1, 1, 0), ("add",),
    ("add", 0, 1, 0, 5), ("drop",), ("drop", 0, 0), ("undo",), ("attempt", []), ("state",), ("note", "x"), ("Fill", 3),
    ("fill ", 3), ("", 3), ["fill", 3], ["move", 1, 1], "fill", "fill 3", (3, "fill"), (("fill", 3),),
    (("fill", 3), ("fill", 3)), (None, 3), (True, 3), (0, 3), ([], 3), (["fill"], 3), ({}, 3), (("fill",), 3),
    {"fill": 3}, ("range_of", 0, 1), ("move", (1, 1)),
)

# Every method that changes a desk, with right and wrong values.
CHANGES = (
    lambda desk: desk.move(1, 0), lambda desk: desk.move(None, None),
    lambda desk: desk.fill(3), lambda desk: desk.fill(-1),
    lambda desk: desk.put((1, 1, 1)), lambda desk: desk.put([]),
    lambda desk: desk.add(FREE), lambda desk: desk.add(None),
    lambda desk: desk.drop(0), lambda desk: desk.drop(99),
    lambda desk: desk.undo(),
    lambda desk: desk.attempt([]), lambda desk: desk.attempt([("fill", 3)]),
    lambda desk: desk.attempt(None), lambda desk: desk.attempt([None]),
    lambda desk: desk.attempt((("fill", 3),), watch=print),
)


class Stop(Exception):
    """An error that is not one of the package."""


class Halt(BaseException):
    """Not even an Exception."""


def one_by_one(edits):
    """A desk of the triangle on which the edits were done singly."""
    desk = Desk(3, TRIANGLE)
    for name, *values in edits:
        getattr(desk, name)(*values)
    return desk


class Batches(Checks):
    def test_example(self):
        desk = Desk(3, TRIANGLE)
        with self.assertRaises(Rejected) as caught:
            desk.attempt([("fill", 3), ("move", 0, 1)])
        self.assertTrue(same(caught.exception.index, 1))
        self.assertIsInstance(caught.exception, RingError)

    def test_lists_and_tuples(self):
        for some in (list, tuple):
            for many in range(len(GOOD) + 1):
                desk = Desk(3, TRIANGLE)
                self.assertEqual(promptly(desk.attempt, some(GOOD[:many])), many)
                self.assertTrue(same(view(desk), view(one_by_one(GOOD[:many]))))
                self.assertEqual(desk.edits(), GOOD[:many])

    def test_each_edit_stands_by_itself(self):
        desk = Desk(3, TRIANGLE)
        desk.attempt(GOOD)
        for many in range(len(GOOD) - 1, -1, -1):
            self.assertEqual(desk.undo(), many)
            self.assertTrue(same(view(desk), view(one_by_one(GOOD[:many]))))

    def test_behind_other_edits(self):
        desk = Desk(3, TRIANGLE)
        desk.fill(3)
        desk.undo()
        desk.move(1, -1)
        self.assertEqual([desk.attempt([("drop", 0)]), desk.attempt(()), desk.attempt([]), len(desk)], [2, 2, 2, 2])
        self.assertEqual(desk.edits(), (("move", 1, -1), ("drop", 0)))

    def test_empty_batch(self):
        calls = []
        desk = Desk(3, TRIANGLE)
        for edits in ([], ()):
            self.assertTrue(same(desk.attempt(edits, watch=calls.append), 0))
        self.assertEqual(calls, [])
        self.assertTrue(same(view(desk), view(Desk(3, TRIANGLE))))

    def test_twenty_and_twenty_one(self):
        desk = Desk(3, TRIANGLE)
        for some in (list, tuple):
            self.refused(desk, ("BadEdits", {}), desk.attempt, some([("move", 1, 0)] * 21))
            self.refused(desk, ("BadEdits", {}), desk.attempt, some([None] * 21))
            self.refused(desk, ("BadEdits", {}), desk.attempt, some([("fill", 9)] * 1000))
        self.assertEqual(desk.attempt([("move", 1, 0)] * 20), 20)
        self.assertEqual(desk.attempt((("move", 1, 0),) * 20), 40)

    def test_no_batch(self):
        desk = Desk(3, TRIANGLE)
        for value in (None, True, False, 0, 5, "", "fill", "fill 3", {}, {"fill": 3}, {"a": ("fill", 3)}, -10 ** 39):
            self.refused(desk, ("BadEdits", {}), desk.attempt, value)
            self.refused(desk, ("BadEdits", {}), desk.attempt, value, watch=self.fail)

    def test_items_that_are_no_edits(self):
        desk = Desk(3, TRIANGLE)
        for value in NO_EDITS:
            for before in ((), (("fill", 3),), (("fill", 9),), (("fill", 3), ("fill", 9), ("move", None, None))):
                for behind in ((), (("fill", 9),), (None, ("fill", 2))):
                    expected = ("BadEdit", {"index": len(before)})
                    self.refused(desk, expected, desk.attempt, list(before) + [value] + list(behind), watch=self.fail)
                    self.refused(desk, expected, desk.attempt, before + (value,) + behind)
        self.refused(desk, ("BadEdit", {"index": 0}), desk.attempt, ("fill", 3))
        self.refused(desk, ("BadEdit", {"index": 19}), desk.attempt, [("fill", 3)] * 19 + [("fill",)])

    def test_no_edit_comes_before_sixty_edits(self):
        desk = Desk(3, TRIANGLE)
        for step in range(3):
            desk.attempt([("move", 1, 0)] * 20)
        self.refused(desk, ("BadEdit", {"index": 1}), desk.attempt, [("fill", 3), None])
        self.refused(desk, ("BadEdits", {}), desk.attempt, None)

    def test_rejected(self):
        for edit in RAISING:
            for before in ((), (("fill", 3),), (("fill", 3), ("put", (0, 1, 1)))):
                for behind in ((), (("fill", 2),), (("drop", 99),)):
                    desk = Desk(3, TRIANGLE)
                    desk.move(1, -1)
                    seen = []
                    batch = before + (edit,) + behind
                    expected = ("Rejected", {"index": len(before)})
                    self.refused(desk, expected, desk.attempt, batch, watch=lambda desk: seen.append(desk.filling))
                    self.assertEqual(seen, [(1, 1, 1), (0, 1, 1)][:len(before)])
                    self.refused(desk, expected, desk.attempt, list(batch))
                    # Nothing is left of it.
                    self.assertEqual([desk.fill(3), desk.undo(), desk.undo()], [2, 1, 0])

    def test_sixty_edits_and_one_more(self):
        for many in (60, 59, 55, 41):
            desk = Desk(3, TRIANGLE)
            for step in range(many):
                desk.fill(2 + step % 2)
            room = 60 - many
            expected = ("Rejected", {"index": room})
            self.refused(desk, expected, desk.attempt, [("move", 1, 0)] * (room + 1))
            self.refused(desk, expected, desk.attempt, [("move", 1, 0)] * room + [("fill", 99)])
            self.assertEqual(desk.attempt([("move", 1, 0)] * room), 60)
            self.assertEqual(desk.attempt([]), 60)
            self.refused(desk, ("Rejected", {"index": 0}), desk.attempt, [("move", 1, 0)])
            self.refused(desk, ("TooManyEdits", {}), desk.move, 1, 0)

    def test_sixteen_rules_and_one_more(self):
        desk = Desk(2, (FREE,) * 10)
        self.refused(desk, ("Rejected", {"index": 6}), desk.attempt, [("add", FREE)] * 7)
        self.assertEqual(desk.attempt([("add", FREE)] * 6), 6)
        self.refused(desk, ("Rejected", {"index": 0}), desk.attempt, [("add", FREE)])
        self.assertEqual(desk.attempt([("drop", 0), ("add", FREE)] * 10), 26)

    def test_edits_depend_on_those_before(self):
        desk = Desk(2, ())
        self.assertEqual(desk.attempt([("fill", 5), ("add", (1, 1, 5, 5)), ("put", (7, 5)), ("drop", 0)]), 4)
        self.assertEqual(desk.state(), ((), (7, 5)))
        self.refused(desk, ("Rejected", {"index": 1}), desk.attempt, [("add", (0, 1, 0, 7)), ("put", (8, 5))])
        self.assertEqual(desk.totals, (0, None))

    def test_a_list_that_is_changed_later(self):
        edits = [("fill", 3), ("move", 1, 0)]
        desk = Desk(3, TRIANGLE)
        desk.attempt(edits)
        edits[0] = ("fill", 2)
        edits.append(("drop", 0))
        self.assertEqual(desk.edits(), (("fill", 3), ("move", 1, 0)))
        self.assertEqual(desk.filling, (1, 1, 1))

    def test_the_batch_does_not_change(self):
        for edits in (list(GOOD), [("fill", 3), ("put", [1])], [None], [("fill", {"a": [1]})]):
            shown = repr(edits)
            outcome(Desk(3, TRIANGLE).attempt, edits)
            self.assertEqual(repr(edits), shown)


class Watches(Checks):
    def test_called_after_each_edit_with_this_desk(self):
        for some in (Desk, LogDesk):
            desk = some(3, TRIANGLE)
            seen = []

            def watch(watched):
                self.assertIs(watched, desk)
                seen.append(view(watched))

            self.assertEqual(desk.attempt(GOOD, watch=watch), len(GOOD))
            self.assertTrue(same(seen, [view(one_by_one(GOOD[:many])) for many in range(1, len(GOOD) + 1)]))

    def test_its_result_has_no_effect(self):
        for result in (None, True, False, 0, -1, "", (), [], ("fill", 3), Desk(1, ())):
            desk = Desk(3, TRIANGLE)
            self.assertEqual(desk.attempt([("fill", 3), ("drop", 0)], watch=lambda desk: result), 2)

    def test_no_watch(self):
        desk = Desk(3, TRIANGLE)
        self.assertEqual(desk.attempt([("fill", 3)], watch=None), 1)

    def test_it_changes_the_list(self):
        for change in (
            lambda edits: edits.clear(), lambda edits: edits.append(("fill", 9)), lambda edits: edits.insert(0, None),
            lambda edits: edits.reverse(), lambda edits: edits.extend([("move", 1, 0)] * 30),
            lambda edits: edits.__setitem__(slice(1, 3), [None, ("drop", 99)]),
        ):
            edits = list(GOOD)
            desk = Desk(3, TRIANGLE)
            self.assertEqual(desk.attempt(edits, watch=lambda desk: change(edits)), len(GOOD))
            self.assertEqual(desk.edits(), GOOD)

    def test_it_raises(self):
        for error in (Stop(), Halt(), KeyError("x"), ValueError(), NoPlace(5), Busy(), Rejected(7), StopIteration()):
            for at in range(3):
                for some in (Desk, LogDesk):
                    desk = some(3, TRIANGLE)
                    desk.move(1, -1)
                    before = view(desk)

                    def watch(watched):
                        if len(watched) == at + 2:
                            raise error

                    with self.assertRaises(error.__class__) as caught:
                        desk.attempt([("fill", 3), ("drop", 0), ("add", FREE)], watch=watch)
                    self.assertIs(caught.exception, error)
                    self.assertTrue(same(view(desk), before))
                    self.assertEqual([desk.fill(3), desk.attempt([("drop", 0)])], [2, 3])
                    self.assertEqual([desk.undo(), desk.undo()], [2, 1])

    def test_it_raises_after_the_last_edit_of_sixty(self):
        desk = Desk(3, TRIANGLE)
        for step in range(59):
            desk.fill(2)
        before = view(desk)

        def watch(watched):
            self.assertEqual(len(watched), 60)
            raise Stop()

        self.assertRaises(Stop, desk.attempt, [("fill", 3)], watch=watch)
        self.assertTrue(same(view(desk), before))
        self.assertEqual(desk.fill(3), 60)

    def test_it_tries_to_change_the_desk(self):
        for change in CHANGES:
            for some in (Desk, LogDesk):
                desk = some(3, TRIANGLE)
                tried = []

                def watch(watched):
                    before = view(watched)
                    tried.append(outcome(change, watched))
                    self.assertTrue(same(view(watched), before))

                self.assertEqual(desk.attempt(GOOD, watch=watch), len(GOOD))
                self.assertEqual(tried, [("raises", "Busy", {})] * len(GOOD))
                self.assertTrue(same(view(desk), view(one_by_one(GOOD))))
                # An error that it does not catch itself is its own, not one of an edit.
                self.refused(desk, ("Busy", {}), desk.attempt, [("move", 1, 0)], watch=change)
                self.assertEqual(desk.undo(), len(GOOD) - 1)

    def test_busy_comes_first(self):
        desk = Desk(3, TRIANGLE)
        for step in range(59):
            desk.fill(2)
        tried = []
        watch = lambda watched: tried.extend([outcome(change, watched) for change in CHANGES])
        self.assertEqual(desk.attempt([("fill", 3)], watch=watch), 60)
        self.assertEqual(tried, [("raises", "Busy", {})] * len(CHANGES))
        desk = Desk(3, TRIANGLE)
        self.assertRaises(Busy, desk.attempt, [("fill", 3)], watch=lambda watched: watched.undo())

    def test_it_asks_every_query(self):
        asked = []

        def watch(desk):
            rules, filling = desk.state()
            asked.append(len(desk))
            self.assertEqual((rules, filling, sum(filling)), (desk.rules, desk.filling, desk.total))
            self.assertEqual(desk.totals, totals_of(3, rules))
            self.assertEqual(desk.edits(), GOOD[:len(desk)])
            self.assertEqual(desk.state(version=0), (TRIANGLE, (0, 1, 1)))
            self.assertEqual(desk.state(version=len(desk)), (rules, filling))
            self.assertEqual(outcome(desk.state, version=len(desk) + 1)[1], "NoVersion")
            self.assertEqual(outcome(desk.range_of, 3, 1)[1], "NoPlace")
            self.assertEqual(outcome(desk.range_of, 0, 4)[1], "BadSize")
            for first, size in ((0, 1), (2, 2), (1, 3)):
                self.assertEqual(desk.range_of(first, size), window_range(3, rules, sum(filling), first, size))
                self.assertEqual(desk.range_of(first, size, version=0), window_range(3, TRIANGLE, 2, first, size))
            self.assertEqual(str(desk), f"3 places, {len(rules)} rules, total {sum(filling)}, {len(desk)} edits")
            self.assertTrue(desk == one_by_one(GOOD[:len(desk)]))
            self.assertFalse(desk == Desk(3, TRIANGLE))
            self.assertEqual(desk.MOST_EDITS, 60)
            self.assertEqual(desk.read("1:").fill(1), 1)

        Desk(3, TRIANGLE).attempt(GOOD, watch=watch)
        self.assertEqual(asked, [1, 2, 3, 4, 5, 6])

    def test_it_edits_another_desk(self):
        desk, other = Desk(3, TRIANGLE), Desk(2, ())

        def watch(watched):
            other.fill(watched.total)
            other.attempt([("add", FREE), ("drop", 0)], watch=lambda second: second.state())

        self.assertEqual(desk.attempt([("fill", 3), ("fill", 2)], watch=watch), 2)
        self.assertEqual((len(other), other.filling), (6, (0, 2)))
        # What was done to the other desk stays, also if the attempt is undone.
        self.refused(desk, ("Rejected", {"index": 1}), desk.attempt, [("fill", 3), ("fill", 9)], watch=watch)
        self.assertEqual((len(other), other.filling), (9, (0, 3)))

    def test_watches_of_two_desks_at_once(self):
        one, other = Desk(3, TRIANGLE), Desk(3, TRIANGLE)
        tried = []

        def inner(desk):
            self.assertIs(desk, other)
            tried.extend([outcome(one.fill, 2), outcome(other.fill, 2), outcome(one.undo), outcome(one.attempt, [])])

        def outer(desk):
            self.assertIs(desk, one)
            self.assertEqual(other.attempt([("drop", 0)], watch=inner), 1)
            self.assertEqual([other.undo(), other.fill(3), other.undo()], [0, 1, 0])
            self.assertEqual(outcome(one.fill, 2), ("raises", "Busy", {}))

        self.assertEqual(one.attempt([("fill", 3), ("fill", 2)], watch=outer), 2)
        self.assertEqual(tried, [("raises", "Busy", {})] * 8)
        self.assertEqual([one.fill(3), other.fill(3)], [3, 1])

    def test_an_error_of_another_desk_is_not_an_edit_of_this_one(self):
        desk, other = Desk(3, TRIANGLE), Desk(2, ())
        watch = lambda watched: other.attempt([("move", 1, 0)] * 5 + [("fill", -1)])
        self.refused(desk, ("Rejected", {"index": 5}), desk.attempt, [("fill", 3)], watch=watch)
        watch = lambda watched: other.fill(-1)
        self.refused(desk, ("NoTotal", {"value": -1}), desk.attempt, [("fill", 3)], watch=watch)
        self.assertEqual(len(other), 0)

    def test_not_busy_between_and_after(self):
        desk = Desk(3, TRIANGLE)
        desk.attempt([("fill", 3), ("fill", 2)], watch=view)
        self.assertEqual([desk.fill(3), desk.undo(), desk.undo()], [3, 2, 1])
        self.refused(desk, ("Rejected", {"index": 1}), desk.attempt, [("fill", 2), ("fill", 9)], watch=view)
        self.assertEqual(desk.undo(), 0)


if __name__ == "__main__":
    unittest.main()
