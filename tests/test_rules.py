"""Promises [4] and [5]: rings and rules."""

import unittest

from ringwindows.rules import (
    broken_rules, fits, is_rules, mirrored_rules, rules_error, turned_rules, window_places, window_sum,
)
from tests import oracle
from tests.oracle import JUNK, LIMIT, TRIANGLE

BIG = 10 ** 30 - 1


class Recognised(unittest.TestCase):
    def check(self, n, value, error):
        self.assertEqual(rules_error(n, value), error)
        self.assertIs(is_rules(n, value), error is None)

    def test_example(self):
        self.assertEqual(
            [is_rules(3, TRIANGLE), rules_error(2, TRIANGLE), rules_error(3, [])], [True, (2, "rule"), (None, "rules")])

    def test_number_of_rules(self):
        rule = (0, 1, 0, 0)
        self.check(1, (), None)
        self.check(1, (rule,), None)
        self.check(12, (rule,) * 16, None)
        self.check(12, (rule,) * 17, (None, "rules"))
        self.check(12, ("x",) * 16, (0, "rule"))
        self.check(12, ("x",) * 17, (None, "rules"))

    def test_not_a_tuple(self):
        for value in (None, True, 0, 5, "", "rules", [], [(0, 1, 0, 0)], {}, {"a": (0, 1, 0, 0)}):
            with self.subTest(value=value):
                self.check(3, value, (None, "rules"))

    def test_first_wrong_item(self):
        rule = (0, 1, 0, 0)
        self.check(1, (rule, rule, (1, 1, 0, 0), rule, None), (2, "rule"))
        self.check(1, (None, rule, None), (0, "rule"))
        self.check(1, (rule,) * 15 + ([0, 1, 0, 0],), (15, "rule"))

    def test_places_and_sizes(self):
        for n in (1, 2, 7, 12):
            for first in range(-2, n + 3):
                for size in range(-2, n + 3):
                    right = 0 <= first < n and 1 <= size <= n
                    self.check(n, ((first, size, 0, None),), None if right else (0, "rule"))

    def test_least_and_most(self):
        for least in (-1, 0, 1, LIMIT - 1, LIMIT, LIMIT + 1, 10 ** 39, None):
            for most in (-1, 0, 1, LIMIT - 1, LIMIT, LIMIT + 1, 10 ** 39, None):
                right = least is not None and 0 <= least <= LIMIT and (most is None or 0 <= most <= LIMIT)
                with self.subTest(least=least, most=most):
                    self.check(1, ((0, 1, least, most),), None if right else (0, "rule"))

    def test_items_too_many_and_too_few(self):
        for item in ((), (0,), (0, 1, 0), (0, 1, 0, 0, 0), (0, 1, 0, None, None), [0, 1, 0, 0], "0100", 0):
            with self.subTest(item=item):
                self.check(1, (item,), (0, "rule"))

    def test_bools_are_no_numbers(self):
        # The calls with the numbers come first: 1 == True must not make the second answer the first.
        for n, rule in ((2, (1, 1, 1, 1)), (2, (0, 1, 0, 0)), (2, (1, 1, 0, None)), (1, (0, 1, 1, 0))):
            for at, number in enumerate(rule):
                if number is None:
                    continue
                self.check(n, (rule,), None)
                wrong = rule[:at] + (bool(number),) + rule[at + 1:]
                self.check(n, (wrong,), (0, "rule"))
                self.check(n, (rule, wrong), (1, "rule"))
                self.check(n, (rule,), None)

    def test_any_value_in_each_part(self):
        for n in (1, 12):
            for at in range(4):
                for value in JUNK + (0, 1, 12):
                    rule = (0, 1, 0, 0)[:at] + (value,) + (0, 1, 0, 0)[at + 1:]
                    with self.subTest(n=n, rule=rule):
                        self.check(n, (rule,), None if oracle.rule_is_right(n, rule) else (0, "rule"))
        for value in JUNK:
            self.check(12, (value,), (0, "rule"))


class Windows(unittest.TestCase):
    def test_examples(self):
        self.assertEqual(window_places(4, 3, 2), (0, 3))
        self.assertEqual(window_sum((5, 1, 0, 2), 3, 2), 7)

    def test_every_window(self):
        for n in range(1, 13):
            filling = tuple(10 ** place for place in range(n))
            for first in range(n):
                for size in range(1, n + 1):
                    found = window_places(n, first, size)
                    self.assertIs(type(found), tuple)
                    self.assertEqual(found, tuple(sorted(oracle.places(n, first, size))))
                    self.assertEqual(len(found), size)
                    self.assertEqual(window_sum(filling, first, size), sum(10 ** place for place in found))

    def test_edges(self):
        self.assertEqual(window_places(1, 0, 1), (0,))
        self.assertEqual(window_places(12, 11, 1), (11,))
        self.assertEqual(window_places(12, 11, 2), (0, 11))
        self.assertEqual(window_places(12, 10, 5), (0, 1, 2, 10, 11))
        self.assertEqual(window_places(12, 7, 12), tuple(range(12)))
        self.assertEqual(window_sum((BIG,), 0, 1), BIG)
        self.assertEqual(window_sum((BIG,) * 12, 7, 12), 12 * BIG)


class Fitting(unittest.TestCase):
    def test_examples(self):
        self.assertEqual(broken_rules(3, TRIANGLE, (3, 0, 0)), ((0, "most"), (1, "least"), (2, "most")))
        self.assertEqual(
            [fits(3, TRIANGLE, (1, 1, 0)), fits(3, TRIANGLE, (2, 0, 0)), fits(3, TRIANGLE, (1, True, 0))],
            [True, False, False])

    def test_sums_at_the_bounds(self):
        for low, high in ((0, 0), (0, 3), (3, 3), (2, LIMIT), (LIMIT, LIMIT)):
            rules = ((0, 2, low, high),)
            for total in {0, low - 1, low, low + 1, high - 1, high, high + 1} - {-1}:
                expected = (((0, "least"),) if total < low else ()) + (((0, "most"),) if total > high else ())
                for filling in ((total, 0, 9), (0, total, 0), (total // 2, total - total // 2, 1)):
                    with self.subTest(rules=rules, filling=filling):
                        self.assertEqual(broken_rules(3, rules, filling), expected)
                        self.assertIs(fits(3, rules, filling), low <= total <= high)

    def test_most_of_none_and_of_zero(self):
        self.assertEqual(broken_rules(1, ((0, 1, 0, None),), (BIG,)), ())
        self.assertIs(fits(1, ((0, 1, 0, None),), (BIG,)), True)
        self.assertIs(fits(1, ((0, 1, 0, None),), (10 ** 39,)), True)
        self.assertEqual(broken_rules(1, ((0, 1, 1, None),), (0,)), ((0, "least"),))
        self.assertEqual(broken_rules(1, ((0, 1, 0, 0),), (1,)), ((0, "most"),))
        self.assertIs(fits(1, ((0, 1, 0, 0),), (0,)), True)

    def test_most_less_than_least(self):
        rules = ((0, 1, 9, 9), (0, 1, 8, 4))
        self.assertEqual(broken_rules(1, rules, (6,)), ((0, "least"), (1, "least"), (1, "most")))
        self.assertEqual(broken_rules(1, rules, (4,)), ((0, "least"), (1, "least")))
        self.assertEqual(broken_rules(1, rules, (8,)), ((0, "least"), (1, "most")))
        for count in range(12):
            self.assertIs(fits(1, rules, (count,)), False)

    def test_over_the_last_place_and_whole_ring(self):
        filling = (1,) + (0,) * 10 + (5,)
        self.assertEqual(broken_rules(12, ((11, 2, 6, 6), (10, 2, 6, None), (0, 11, 0, 1)), filling), ((1, "least"),))
        self.assertEqual(broken_rules(12, ((7, 12, 6, 6), (3, 12, 7, 5)), filling), ((1, "least"), (1, "most")))

    def test_sixteen_rules(self):
        rules = ((0, 1, 1, None),) * 16
        self.assertEqual(broken_rules(1, rules, (0,)), tuple((index, "least") for index in range(16)))
        self.assertEqual(broken_rules(1, rules, (1,)), ())
        self.assertEqual(broken_rules(1, (), (0,)), ())

    def test_against_the_listing(self):
        for n, rules in oracle.small_rings():
            listed = oracle.all_fillings(n, rules)
            for filling in listed[:20]:
                self.assertEqual(broken_rules(n, rules, filling), ())
                self.assertIs(fits(n, rules, filling), True)
            for at in range(n):
                filling = (0,) * at + (2,) + (0,) * (n - at - 1)
                broken = broken_rules(n, rules, filling)
                self.assertEqual(broken, tuple(sorted(set(broken))))
                self.assertIs(fits(n, rules, filling), oracle.fit(rules, filling))
                self.assertIs(broken == (), oracle.fit(rules, filling))

    def test_any_value(self):
        for n in (1, 3, 12):
            for value in JUNK + (0, 5, [0] * n, [1] * n, "0" * n, (0,) * (n - 1), (0,) * (n + 1), {"a": (0,) * n}):
                with self.subTest(n=n, value=value):
                    self.assertIs(fits(n, (), value), False)
                    self.assertIs(fits(n, ((0, 1, 0, 0),), value), False)
            self.assertIs(fits(n, (), (0,) * n), True)

    def test_any_value_as_a_count(self):
        for at in range(3):
            for value in JUNK + (0, 1, BIG):
                filling = (0, 1, 0)[:at] + (value,) + (0, 1, 0)[at + 1:]
                with self.subTest(filling=filling):
                    self.assertIs(fits(3, (), filling), oracle.filling_is_right(3, filling))

    def test_bools_right_after_numbers(self):
        for filling in ((0, 1, 1), (1, 0, 1), (1, 1, 0)):
            for at, count in enumerate(filling):
                self.assertIs(fits(3, TRIANGLE, filling), True)
                self.assertIs(fits(3, TRIANGLE, filling[:at] + (bool(count),) + filling[at + 1:]), False)
                self.assertIs(fits(3, TRIANGLE, filling), True)


class Renamed(unittest.TestCase):
    def test_example(self):
        self.assertEqual(
            [turned_rules(4, ((0, 2, 1, None),), 1), mirrored_rules(4, ((0, 2, 1, None),))],
            [((3, 2, 1, None),), ((2, 2, 1, None),)])

    def test_every_window(self):
        for n in range(1, 13):
            windows = [(first, size) for first in range(n) for size in range(1, n + 1)]
            for first, size in windows:
                rule = (first, size, first + size, None if size % 2 else 5)
                found = oracle.places(n, first, size)
                for place in range(n):
                    (turned,) = turned_rules(n, (rule,), place)
                    self.assertEqual(turned[0], (first - place) % n)
                    self.assertEqual(oracle.places(n, turned[0], turned[1]), {(p - place) % n for p in found})
                    self.assertEqual(turned[1:], rule[1:])
                (mirrored,) = mirrored_rules(n, (rule,))
                self.assertEqual(mirrored[0], (-first - size) % n)
                self.assertEqual(oracle.places(n, mirrored[0], mirrored[1]), {n - 1 - p for p in found})
                self.assertEqual(mirrored[1:], rule[1:])

    def test_order_stays(self):
        rules = ((3, 1, 0, 0), (0, 4, 0, LIMIT), (3, 1, LIMIT, 0), (1, 2, 5, None))
        self.assertEqual(turned_rules(4, rules, 0), rules)
        self.assertEqual(turned_rules(4, rules, 3), ((0, 1, 0, 0), (1, 4, 0, LIMIT), (0, 1, LIMIT, 0), (2, 2, 5, None)))
        self.assertEqual(mirrored_rules(4, rules), ((0, 1, 0, 0), (0, 4, 0, LIMIT), (0, 1, LIMIT, 0), (1, 2, 5, None)))
        self.assertEqual(turned_rules(1, (), 0), ())
        self.assertEqual(mirrored_rules(1, ()), ())

    def test_renamed_rules_are_rules(self):
        for n, rules in list(oracle.great_rings())[:100]:
            self.assertIs(is_rules(n, mirrored_rules(n, rules)), True)
            self.assertIs(is_rules(n, turned_rules(n, rules, n - 1)), True)


if __name__ == "__main__":
    unittest.main()
