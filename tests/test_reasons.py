"""Promises [6] and [7]: reasons and their bounds."""

import unittest
from itertools import combinations_with_replacement

from ringwindows.reasons import bound_of
from tests import oracle
from tests.oracle import JUNK, LIMIT, TRIANGLE


class Bounds(unittest.TestCase):
    def test_example(self):
        reasons = (((0, 1, 2), ()), ((), (0, 1, 2)), ((0,), (0,)), ((2, 1), ()))
        self.assertEqual(
            [bound_of(3, TRIANGLE, reason) for reason in reasons], [("least", 2), ("most", 3), ("none",), None])

    def test_least_is_rounded_up(self):
        windows = tuple((first, 2, 0, None) for first in range(3))
        for demand, expected in ((0, 0), (1, 1), (2, 1), (3, 2), (4, 2), (5, 3), (LIMIT, LIMIT // 2)):
            rules = ((0, 2, demand, None),) + windows[1:]
            self.assertEqual(bound_of(3, rules, ((0, 1, 2), ())), ("least", expected))

    def test_most_is_rounded_down(self):
        windows = tuple((first, 2, 0, 0) for first in range(3))
        for slack, expected in ((0, 0), (1, 0), (2, 1), (3, 1), (4, 2), (LIMIT, LIMIT // 2)):
            rules = ((0, 2, 0, slack),) + windows[1:]
            self.assertEqual(bound_of(3, rules, ((), (0, 1, 2))), ("most", expected))

    def test_least_is_never_below_zero(self):
        rules = ((0, 2, 3, 3), (0, 1, 0, 9))
        self.assertEqual(bound_of(2, rules, ((0,), (1,))), ("least", 0))
        self.assertEqual(bound_of(2, rules, ((0, 0, 0), (1,))), ("least", 0))
        self.assertEqual(bound_of(2, rules, ((0, 0, 0, 0), (1,))), ("least", 1))

    def test_never(self):
        self.assertEqual(bound_of(2, ((0, 1, 3, 2),), ((0,), (0,))), ("never",))
        self.assertEqual(bound_of(2, ((0, 1, 3, 3),), ((0,), (0,))), ("none",))
        # In the last two c is -1, and D is -1 and 1.
        rules = ((0, 1, 5, None), (0, 2, 0, 2), (1, 1, 0, 2))
        self.assertEqual(bound_of(2, rules, ((0,), (1, 1, 2))), ("most", 1))
        self.assertEqual(bound_of(2, rules, ((0,), (1, 1))), ("never",))

    def test_none(self):
        self.assertEqual(bound_of(1, (), ((), ())), ("none",))
        self.assertEqual(bound_of(12, TRIANGLE, ((), ())), ("none",))
        self.assertEqual(bound_of(3, TRIANGLE, ((), (0,))), ("none",))

    def test_great_numbers(self):
        rules = ((0, 1, LIMIT, LIMIT),) + ((3, 12, LIMIT, LIMIT),)
        self.assertEqual(bound_of(12, rules, ((1,) * 24, ())), ("least", LIMIT))
        self.assertEqual(bound_of(12, rules, ((), (1,) * 24)), ("most", LIMIT))
        self.assertEqual(bound_of(12, rules, ((0,) * 24, ())), ("least", LIMIT))
        self.assertEqual(bound_of(12, rules, ((0,) * 12 + (1,) * 12, ())), ("least", LIMIT))
        self.assertEqual(bound_of(1, ((0, 1, LIMIT, 0),), ((0,) * 13, (0,) * 11)), ("least", 13 * LIMIT // 2))

    def test_windows_over_the_last_place(self):
        rules = ((11, 2, 4, None), (0, 1, 5, None), (11, 1, 6, None))
        self.assertEqual(bound_of(12, rules, ((0, 1), ())), ("least", 5))
        self.assertEqual(bound_of(12, rules, ((0, 2), ())), ("least", 5))
        self.assertEqual(bound_of(12, rules, ((1, 2), ())), ("least", 11))

    def test_all_reasons_of_small_rings(self):
        rings = ((3, TRIANGLE), (1, ((0, 1, 2, 5), (0, 1, 3, 1))), (4, ((3, 2, 1, 1), (1, 3, 4, 0), (2, 4, 3, 7))))
        for n, rules in rings:
            sides = [side for many in range(4) for side in combinations_with_replacement(range(len(rules)), many)]
            for leasts in sides:
                for mosts in sides:
                    reason = (leasts, mosts)
                    self.assertEqual(bound_of(n, rules, reason), oracle.bound(n, rules, reason))

    def test_no_reason_is_wrong(self):
        for n, rules in list(oracle.small_rings())[::7]:
            totals = {sum(filling) for filling in oracle.all_fillings(n, rules)}
            indexes = range(len(rules))
            capped = [index for index in indexes if rules[index][3] is not None]
            for leasts in combinations_with_replacement(indexes, 2):
                for mosts in list(combinations_with_replacement(capped, 1)) + [()]:
                    bound = bound_of(n, rules, (leasts, mosts))
                    if bound == ("never",):
                        self.assertEqual(totals, set())
                    elif bound[0] == "least":
                        self.assertTrue(all(total >= bound[1] for total in totals))
                    elif bound[0] == "most":
                        self.assertTrue(all(total <= bound[1] for total in totals))


class Recognised(unittest.TestCase):
    def refused(self, n, rules, value):
        with self.subTest(value=value):
            self.assertIsNone(bound_of(n, rules, value))

    def test_number_of_indexes(self):
        for many in range(25):
            self.assertEqual(bound_of(3, TRIANGLE, ((0,) * many, (0,) * (24 - many))) is None, False)
            self.refused(3, TRIANGLE, ((0,) * many, (0,) * (25 - many)))
        self.refused(3, TRIANGLE, ((0,) * 25, ()))

    def test_repeated_indexes_count_each_time(self):
        rules = ((0, 1, 1, 4), (1, 1, 2, 3))
        self.assertEqual(bound_of(2, rules, ((0, 0, 0, 1), ())), ("least", 2))
        self.assertEqual(bound_of(2, rules, ((0, 0, 1), ())), ("least", 2))
        self.assertEqual(bound_of(2, rules, ((0, 1), ())), ("least", 3))
        self.assertEqual(bound_of(2, rules, ((), (0, 0, 0, 1, 1))), ("most", 9))
        self.assertEqual(bound_of(2, rules, ((), (0, 1))), ("most", 7))

    def test_not_sorted(self):
        for side in ((1, 0), (0, 2, 1), (2, 2, 0), (0, 0, 1, 0)):
            self.refused(3, TRIANGLE, (side, ()))
            self.refused(3, TRIANGLE, ((), side))
            self.assertIsNotNone(bound_of(3, TRIANGLE, (tuple(sorted(side)), tuple(sorted(side)))))

    def test_out_of_range(self):
        for side in ((3,), (-1,), (0, 3), (-1, 0), (10 ** 39,), (-10 ** 39,), (0, 1, 2, 3)):
            self.refused(3, TRIANGLE, (side, ()))
            self.refused(3, TRIANGLE, ((), side))
        self.refused(3, (), ((0,), ()))
        self.refused(3, (), ((), (0,)))
        self.assertIsNotNone(bound_of(3, TRIANGLE * 5 + TRIANGLE[:1], ((15,), (15,))))

    def test_mosts_of_rules_without_a_most(self):
        rules = ((0, 1, 1, None), (0, 1, 0, 0))
        self.refused(1, rules, ((), (0,)))
        self.refused(1, rules, ((0,), (0, 1)))
        self.assertEqual(bound_of(1, rules, ((0,), ())), ("least", 1))
        self.assertEqual(bound_of(1, rules, ((), (1,))), ("most", 0))

    def test_lists_and_lengths(self):
        good = ((0, 1), (2,))
        for value in (
            list(good), ([0, 1], (2,)), ((0, 1), [2]), ([], ()), ((), []), ((0, 1),), ((0, 1), (2,), ()), ((), (), ()),
            (0, 1), ("01", "2"), ({}, {}), (None, ()), ((), None), ((), 0), (((0,),), ()), ((), ((0,),)),
        ):
            self.refused(3, TRIANGLE, value)

    def test_bools_right_after_numbers(self):
        for good in (((0, 1), (0, 1)), ((0,), ()), ((1,), ()), ((), (0,)), ((), (1,))):
            for at in (0, 1):
                for place, index in enumerate(good[at]):
                    side = good[at][:place] + (bool(index),) + good[at][place + 1:]
                    self.assertIsNotNone(bound_of(3, TRIANGLE, good))
                    self.refused(3, TRIANGLE, good[:at] + (side,) + good[at + 1:])
                    self.assertIsNotNone(bound_of(3, TRIANGLE, good))

    def test_any_value(self):
        for n, rules in ((1, ()), (3, TRIANGLE)):
            for value in JUNK:
                self.refused(n, rules, value)
                for reason in ((value, ()), ((), value), ((value,), ()), ((), (value,)), ((0, value), ())):
                    with self.subTest(n=n, reason=reason):
                        self.assertEqual(bound_of(n, rules, reason), oracle.bound(n, rules, reason))


if __name__ == "__main__":
    unittest.main()
