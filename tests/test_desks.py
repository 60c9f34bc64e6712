"""Promises [10] and [11]: desks, their attributes, their five edits, and the errors that they raise."""

import unittest

from ringwindows import bounds, errors
from ringwindows.desks import Desk, LogDesk
from ringwindows.fillings import smallest_filling
from ringwindows.reasons import totals_of
from ringwindows.rules import rules_error
from tests import oracle
from tests.checks import FREE, KINDS, Checks, no_numbers
from tests.oracle import LIMIT, TRIANGLE
from tests.tools import changed, outcome, promptly, same, view, with_bools, with_lists

MOST = 10 ** 25


class Examples(unittest.TestCase):
    def test_new_desk(self):
        desk = Desk(3, TRIANGLE)
        self.assertEqual(
            [desk.filling, desk.total, desk.totals, desk.rules == TRIANGLE, len(desk)], [(0, 1, 1), 2, (2, 3), True, 0])

    def test_class_value(self):
        self.assertEqual([Desk.MOST_EDITS, Desk(1, ()).filling], [60, (0,)])

    def test_move(self):
        desk = Desk(3, TRIANGLE)
        self.assertEqual([desk.move(1, -1), desk.filling], [1, (1, 0, 1)])
        with self.assertRaises(errors.TooFew):
            desk.move(2, 2)

    def test_drop_and_add(self):
        desk = Desk(3, TRIANGLE)
        self.assertEqual(
            [desk.drop(1), desk.totals, desk.add((0, 3, 2, 2)), desk.totals, desk.rules],
            [1, (1, 4), 2, (2, 2), ((0, 2, 1, 2), (2, 2, 1, 2), (0, 3, 2, 2))])

    def test_undo(self):
        desk = Desk(3, TRIANGLE)
        self.assertEqual([desk.fill(3), desk.filling, desk.undo(), desk.filling], [1, (1, 1, 1), 0, (0, 1, 1)])

    def test_state(self):
        desk = Desk(2, ())
        self.assertEqual([desk.fill(3), desk.state(), desk.state(version=0)], [1, ((), (0, 3)), ((), (0, 0))])

    def test_range_of(self):
        self.assertEqual(Desk(3, TRIANGLE).range_of(0, 1), (0, 1))

    def test_edits(self):
        desk = Desk(2, ())
        self.assertEqual([desk.add((0, 1, 0, 5)), desk.edits()], [1, (("add", (0, 1, 0, 5)),)])

    def test_read(self):
        desk = Desk.read("3: 0+2:1..2 2+1:1..")
        self.assertEqual([desk.filling, desk.totals], [(0, 1, 1), (2, None)])

    def test_text_and_equal_desks(self):
        self.assertEqual(
            [str(Desk(3, TRIANGLE)), Desk(3, TRIANGLE) == Desk(3, TRIANGLE[::-1])],
            ["3 places, 3 rules, total 2, 0 edits", False])


class Made(Checks):
    def test_begins_with_the_smallest_filling_of_the_least_total(self):
        made = 0
        for n, rules in list(oracle.small_rings()) + list(oracle.great_rings())[::4] + [(k, ()) for k in range(1, 13)]:
            totals = totals_of(n, rules)
            if totals is None:
                self.assertEqual(outcome(Desk, n, rules), ("raises", "Never", {}))
                continue
            desk = promptly(Desk, n, rules)
            filling = smallest_filling(n, rules, totals[0])
            expected = (rules, filling, totals[0], totals, 0, f"{n} places, {len(rules)} rules, total {totals[0]}, "
                        "0 edits", (), [(rules, filling)])
            self.assertTrue(same(view(desk), expected), (n, rules))
            made += 1
        self.assertGreater(made, 300)

    def test_no_ring(self):
        for value in no_numbers(1, 12) + (0, 13, True, False):
            for rules in ((), TRIANGLE, None, ((0, 1, 3, 2),)):
                for some in (Desk, LogDesk):
                    self.assertTrue(same(outcome(some, value, rules), ("raises", "BadRing", {"value": value})))
        for n in range(1, 13):
            self.assertEqual(Desk(n, ()).filling, (0,) * n)
        self.assertEqual(Desk(1, ()).filling, (0,))
        self.assertEqual(outcome(Desk, True, ())[1], "BadRing")

    def test_no_rules(self):
        wrong = 0
        for n, value in [(3, value) for value in changed(TRIANGLE)] + [(2, TRIANGLE), (1, (FREE,) * 17)]:
            error = rules_error(n, value)
            if error is not None:
                for some in (Desk, LogDesk):
                    self.assertTrue(same(outcome(some, n, value), ("raises", "BadRules", {"error": error})), value)
                wrong += 1
        self.assertGreater(wrong, 200)
        for value, error in (
            ([], (None, "rules")), (None, (None, "rules")), ((FREE,) * 17, (None, "rules")),
            ((FREE, None), (1, "rule")), ((FREE, FREE, (1, 1, 0, None)), (2, "rule")),
            (((0, 1, False, None),), (0, "rule")),
            # What is wrong with the rules comes before that nothing fits them.
            (((0, 1, 3, 2), []), (1, "rule")),
        ):
            self.assertTrue(same(outcome(Desk, 1, value), ("raises", "BadRules", {"error": error})))
        self.assertEqual(len(Desk(1, (FREE,) * 16).rules), 16)

    def test_never(self):
        for n, rules in list(oracle.rounding_rings()) + [(1, ((0, 1, 3, 2),)), (12, ((0, 12, 0, 0), (3, 1, 1, None)))]:
            for some in (Desk, LogDesk):
                self.assertEqual(outcome(promptly, some, n, rules), ("raises", "Never", {}))

    def test_most_edits(self):
        for owner in (Desk, LogDesk, Desk(1, ()), LogDesk(1, ())):
            self.assertTrue(same(owner.MOST_EDITS, 60))
        self.assertEqual(Desk.MOST_EDITS, bounds.MAX_EDITS)


class Moves(Checks):
    def test_forward_and_backward(self):
        desk = Desk(4, ())
        desk.put((5, 6, 7, 8))
        for border, units, expected in (
            (1, 2, (3, 8, 7, 8)), (1, -2, (5, 6, 7, 8)), (2, 6, (5, 0, 13, 8)), (3, -8, (5, 0, 21, 0)),
            (0, -5, (0, 0, 21, 5)), (0, 5, (5, 0, 21, 0)), (3, 21, (5, 0, 0, 21)), (0, 21, (26, 0, 0, 0)),
        ):
            version = len(desk)
            self.assertEqual(desk.move(border, units), version + 1)
            self.assertEqual(desk.filling, expected)
            self.assertEqual(desk.edits()[-1], ("move", border, units))

    def test_no_units(self):
        for n in (1, 2, 12):
            desk = Desk(n, ())
            for border in range(n):
                self.assertEqual(desk.move(border, 0), border + 1)
            self.assertEqual(desk.filling, (0,) * n)
            self.assertEqual(desk.edits(), tuple(("move", border, 0) for border in range(n)))

    def test_one_place(self):
        desk = Desk(1, ((0, 1, 3, 5),))
        for version, units in enumerate((0, 1, -1, 7, -7, LIMIT, -LIMIT)):
            self.assertEqual(desk.move(0, units), version + 1)
            self.assertEqual(desk.filling, (3,))
        for units in (LIMIT + 1, -LIMIT - 1):
            self.refused(desk, ("BadUnits", {"value": units}), desk.move, 0, units)
        self.refused(desk, ("NoPlace", {"value": 1}), desk.move, 1, 1)
        self.assertEqual(len(desk), 7)

    def test_two_places(self):
        desk = Desk(2, ())
        desk.put((3, 4))
        self.assertEqual([desk.move(0, 4), desk.filling, desk.move(1, 7), desk.filling], [2, (7, 0), 3, (0, 7)])

    def test_no_place(self):
        desk = Desk(3, TRIANGLE)
        for value in no_numbers(0, 2) + (True, False, 3, 12):
            for units in (1, 0, 5, None, True, LIMIT + 1):
                self.refused(desk, ("NoPlace", {"value": value}), desk.move, value, units)

    def test_no_units_at_all(self):
        desk = Desk(3, TRIANGLE)
        for value in no_numbers(-LIMIT, LIMIT) + (True, False):
            for border in (0, 1, 2) if value != -1 else ():
                self.refused(desk, ("BadUnits", {"value": value}), desk.move, border, value)

    def test_bools_right_after_numbers(self):
        desk = Desk(2, ())
        desk.put((5, 5))
        for border, units in ((1, 1), (0, 0), (1, 0), (0, 1)):
            desk.move(border, units)
            self.refused(desk, ("BadUnits", {"value": bool(units)}), desk.move, border, bool(units))
            self.refused(desk, ("NoPlace", {"value": bool(border)}), desk.move, bool(border), units)

    def test_the_limit(self):
        desk = Desk(2, ())
        desk.put((MOST, LIMIT))
        self.assertEqual([desk.move(1, LIMIT), desk.filling], [2, (MOST - LIMIT, 2 * LIMIT)])
        self.assertEqual([desk.move(1, -LIMIT), desk.move(1, -LIMIT), desk.filling], [3, 4, (MOST + LIMIT, 0)])
        self.refused(desk, ("TooFew", {}), desk.move, 1, -LIMIT)

    def test_too_few(self):
        desk = Desk(3, ())
        desk.put((2, 0, 1))
        for border, units in ((1, 3), (2, 1), (0, 2), (1, -1), (2, -2), (0, -3), (1, LIMIT), (1, -LIMIT)):
            self.refused(desk, ("TooFew", {}), desk.move, border, units)
        # It comes before a rule that would be broken.
        desk = Desk(3, TRIANGLE)
        self.refused(desk, ("TooFew", {}), desk.move, 1, 5)
        self.refused(desk, ("TooFew", {}), desk.move, 2, 2)

    def test_first_broken_rule(self):
        rules = ((0, 4, 4, 4), (0, 2, 1, 3), (1, 1, 1, None), (3, 2, 1, 2), (1, 1, 1, None))
        desk = Desk(4, rules)
        self.assertEqual(desk.filling, (0, 1, 1, 2))
        self.refused(desk, ("Broken", {"index": 1}), desk.move, 2, 1)
        self.refused(desk, ("Broken", {"index": 2}), desk.move, 1, -1)
        self.refused(desk, ("Broken", {"index": 3}), desk.move, 3, 1)
        self.assertEqual(desk.move(0, 1), 1)
        self.assertEqual(desk.filling, (1, 1, 1, 1))


class Fillings(Checks):
    def test_fill(self):
        desk = Desk(3, TRIANGLE)
        self.assertEqual([desk.fill(3), desk.filling, desk.fill(2), desk.filling], [1, (1, 1, 1), 2, (0, 1, 1)])
        self.assertEqual([desk.fill(2), desk.filling], [3, (0, 1, 1)])
        self.assertEqual(desk.edits(), (("fill", 3), ("fill", 2), ("fill", 2)))

    def test_no_total(self):
        desk = Desk(3, TRIANGLE)
        for value in KINDS + (0, 1, 4, 10 ** 9, MOST, MOST + 1):
            self.refused(desk, ("NoTotal", {"value": value}), desk.fill, value)
        self.first_bool_refused(Desk(2, ()), "fill", "NoTotal", (0, 1, 0, 1))

    def test_totals_of_a_ring_without_end(self):
        for n in (1, 2, 12):
            desk = Desk(n, ())
            for total in (0, 1, LIMIT, LIMIT + 1, MOST - 1, MOST):
                desk.fill(total)
                self.assertEqual(desk.filling, (0,) * (n - 1) + (total,))
            for total in (MOST + 1, 10 ** 26, 10 ** 39, -1):
                self.refused(desk, ("NoTotal", {"value": total}), desk.fill, total)

    def test_fill_on_many_rings(self):
        for n, rules, hidden in list(oracle.close_rings())[::3]:
            desk = Desk(n, rules)
            low, high = desk.totals
            for total in {low, low + 1, sum(hidden), low + 7} | ({high, high + 1} if high is not None else set()):
                expected = smallest_filling(n, rules, total)
                if expected is None:
                    self.refused(desk, ("NoTotal", {"value": total}), desk.fill, total)
                else:
                    self.assertEqual(promptly(desk.fill, total), len(desk))
                    self.assertEqual(desk.filling, expected)

    def test_put(self):
        desk = Desk(3, TRIANGLE)
        for version, filling in enumerate(((1, 1, 0), (1, 1, 1), (1, 1, 1), (0, 1, 1))):
            self.assertEqual(desk.put(filling), version + 1)
            self.assertTrue(same((desk.filling, desk.total), (filling, sum(filling))))
            self.assertEqual(desk.edits()[-1], ("put", filling))

    def test_no_filling(self):
        desk = Desk(3, TRIANGLE)
        for value in KINDS + (
            (1, 1), (1, 1, 0, 0), [1, 1, 0], (1, 1, -1), (1, 1, None), (1, 1, "0"), (1, 1, (0,)), ((1, 1, 0),),
            (1, MOST + 1, 0), (MOST + 1,) * 3, "1 1 0", {"0": 1}, (1, [1], 0),
        ):
            self.refused(desk, ("BadFilling", {"value": value}), desk.put, value)
        for filling in ((1, 1, 0), (0, 1, 1)):
            desk.put(filling)
            for value in list(with_bools(filling)) + list(with_lists(filling)):
                self.refused(desk, ("BadFilling", {"value": value}), desk.put, value)

    def test_greatest_counts(self):
        desk = Desk(2, ((0, 1, 0, 5),))
        self.assertEqual([desk.put((5, MOST)), desk.total], [1, MOST + 5])
        self.refused(desk, ("BadFilling", {"value": (5, MOST + 1)}), desk.put, (5, MOST + 1))
        # A count that is too great comes before a rule that would be broken.
        self.refused(desk, ("BadFilling", {"value": (MOST + 1, 0)}), desk.put, (MOST + 1, 0))
        self.refused(desk, ("Broken", {"index": 0}), desk.put, (MOST, 0))
        desk = Desk(12, ())
        self.assertEqual([desk.put((MOST,) * 12), desk.total, desk.range_of(0, 6)], [1, 12 * MOST, (0, 12 * MOST)])
        # Only fill is bounded by the total, put by each count.
        self.refused(desk, ("NoTotal", {"value": 12 * MOST}), desk.fill, 12 * MOST)

    def test_first_broken_rule(self):
        desk = Desk(3, TRIANGLE)
        for filling, index in (((3, 0, 0), 0), ((2, 0, 0), 1), ((0, 0, 1), 0), ((1, 0, 2), 2), ((0, 2, 1), 1)):
            self.refused(desk, ("Broken", {"index": index}), desk.put, filling)


class Rules(Checks):
    def test_add(self):
        desk = Desk(3, ())
        rules = ((0, 1, 0, 5), (1, 3, 0, 9), (0, 1, 0, 5), (2, 2, 0, None))
        for version, rule in enumerate(rules):
            self.assertEqual(desk.add(rule), version + 1)
            self.assertTrue(same(desk.rules, rules[:version + 1]))
            self.assertEqual(desk.totals, totals_of(3, desk.rules))
            self.assertEqual(desk.filling, (0, 0, 0))

    def test_no_rule_for_the_ring(self):
        desk = Desk(3, TRIANGLE)
        for value in KINDS + tuple(changed((0, 2, 1, 2))) + ((3, 1, 0, 1), (0, 4, 0, 1), (0, 0, 0, 1), TRIANGLE):
            if not oracle.rule_is_right(3, value):
                self.refused(desk, ("BadRule", {"value": value}), desk.add, value)
        for rule in ((0, 1, 0, 1), (1, 1, 1, None)):
            desk.add(rule)
            for value in list(with_bools(rule)) + list(with_lists(rule)):
                self.refused(desk, ("BadRule", {"value": value}), desk.add, value)

    def test_sixteen_rules_and_one_more(self):
        for many in (0, 15, 16):
            desk = Desk(2, (FREE,) * many)
            for index in range(many, 16):
                self.assertEqual(desk.add((1, 1, 0, index)), index - many + 1)
            self.assertEqual(len(desk.rules), 16)
            # A value that is no rule comes before, a rule that would be broken after it.
            self.refused(desk, ("TooManyRules", {}), desk.add, FREE)
            self.refused(desk, ("TooManyRules", {}), desk.add, (0, 1, 1, 1))
            self.refused(desk, ("BadRule", {"value": None}), desk.add, None)
            self.refused(desk, ("BadRule", {"value": (2, 1, 0, 1)}), desk.add, (2, 1, 0, 1))
            self.assertEqual(desk.drop(3), len(desk))
            self.assertEqual(desk.add(FREE), len(desk))

    def test_a_rule_that_the_filling_does_not_fit(self):
        for many in (0, 1, 15):
            desk = Desk(3, (FREE,) * many)
            desk.put((1, 2, 3))
            for rule in ((0, 1, 2, None), (0, 2, 4, 9), (2, 2, 0, 3), (0, 3, 7, 7), (1, 1, 3, 1)):
                self.refused(desk, ("Broken", {"index": many}), desk.add, rule)
            self.assertEqual(desk.add((2, 2, 4, 4)), 2)

    def test_drop(self):
        rules = tuple((0, 1, 0, most) for most in range(5))
        for index in range(5):
            desk = Desk(2, rules)
            self.assertEqual([desk.drop(index), desk.edits()], [1, (("drop", index),)])
            self.assertEqual(desk.rules, rules[:index] + rules[index + 1:])
            self.assertEqual(desk.totals, totals_of(2, desk.rules))
        desk = Desk(3, TRIANGLE)
        self.assertEqual([desk.drop(0), desk.drop(0), desk.drop(0), desk.rules, desk.totals], [1, 2, 3, (), (0, None)])

    def test_no_such_rule(self):
        for rules in ((), (FREE,), (FREE, FREE), (FREE,) * 16):
            desk = Desk(2, rules)
            for value in no_numbers(0, len(rules) - 1) + (True, False, 16, FREE):
                self.refused(desk, ("NoRule", {"value": value}), desk.drop, value)
        desk = Desk(2, (FREE,) * 4)
        self.first_bool_refused(desk, "drop", "NoRule", (1, 0))

    def test_totals_are_up_to_date(self):
        for n, rules, hidden in list(oracle.close_rings())[::5]:
            desk = Desk(n, ())
            desk.put(hidden)
            for version, rule in enumerate(rules):
                self.assertEqual(promptly(desk.add, rule), version + 2)
                self.assertEqual(desk.totals, totals_of(n, rules[:version + 1]))
            while desk.rules:
                desk.drop(len(desk.rules) // 2)
                self.assertEqual(desk.totals, totals_of(n, desk.rules))
            self.assertEqual(desk.filling, hidden)


if __name__ == "__main__":
    unittest.main()
