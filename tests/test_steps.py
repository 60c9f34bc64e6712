"""Promise [9], and [2] (d) and (h): steps, and ways that are as short as possible."""

import unittest
from random import Random

from ringwindows.errors import RingError, TooMany
from ringwindows.steps import find_way, least_steps, way_holds
from tests import oracle
from tests.oracle import JUNK, TRIANGLE
from tests.tools import changed, promptly, with_bools, with_lists

BIG = 10 ** 30 - 1


def small_groups():
    """Yields small rings with all fillings of a total that fit."""
    for step, (n, rules) in enumerate(oracle.small_rings()):
        for total in range(1, (10, 10, 8, 6, 5, 4, 4)[n]):
            listed = oracle.listed_fillings(n, rules, total)
            if (step + total) % 5 == 0 and listed and len(listed) < 60:
                yield n, rules, listed


def rules_round_both(random, one, other, many):
    """Rules that both fillings fit, and hardly anything else does."""
    rules = []
    while len(rules) < many:
        first, size = random.randrange(len(one)), random.randint(1, len(one))
        sums = oracle.units(one, first, size), oracle.units(other, first, size)
        rules.append((first, size, min(sums), max(sums)))
    return tuple(rules)


def pairs():
    """Yields rings with tight rules that two fillings with the same total fit, and the two."""
    random = Random(30)
    for step in range(200):
        n = random.choice([1, 2, 3, 5, 8, 11, 12, 12, 12])
        reach = random.choice([1, 3, 40])
        base = random.choice([0, 0, 1, 10 ** 7])
        one = [base + random.randint(0, reach) for place in range(n)]
        other = [base + random.randint(0, reach) for place in range(n)]
        gap = sum(one) - sum(other)
        (other if gap > 0 else one)[random.randrange(n)] += abs(gap)
        yield n, rules_round_both(random, one, other, random.choice([0, 1, 8, 16, 16])), tuple(one), tuple(other)


def great_pairs():
    """The same with counts of up to 24 digits. Rules go up to 10 ** 9, so they leave out the great counts."""
    random = Random(31)
    for n, rules, one, other in pairs():
        great = random.choice([10 ** 23, 10 ** 24 - 10 ** 9])
        at = random.randrange(n)
        raised = [filling[:at] + (filling[at] + great,) + filling[at + 1:] for filling in (one, other)]
        kept = [rule for rule in rules if at not in oracle.places(n, rule[0], rule[1])]
        yield n, tuple(kept), *raised


class Examples(unittest.TestCase):
    def test_least_steps(self):
        self.assertEqual(
            [least_steps((1, 1, 0), (0, 1, 1)), least_steps((2, 0, 0), (0, 0, 2)),
             least_steps((5, 0, 0, 0), (0, 0, 5, 0)), least_steps((1,), (2,))],
            [1, 1, 3, None])

    def test_find_way(self):
        way = find_way(4, (), (5, 0, 0, 0), (0, 0, 5, 0))
        self.assertEqual([len(way), way_holds(4, (), (5, 0, 0, 0), (0, 0, 5, 0), way)], [4, True])

    def test_way_holds(self):
        one, other = (1, 1, 0), (0, 1, 1)
        self.assertEqual(
            [way_holds(3, TRIANGLE, one, other, (one, (1, 0, 1), other)),
             way_holds(3, TRIANGLE, one, other, (one, (2, 0, 0), other))],
            [True, False])


class Least(unittest.TestCase):
    def test_as_few_as_a_search_finds(self):
        compared = longest = 0
        for n, rules, listed in small_groups():
            for start in listed[::5]:
                # The search goes over fillings that fit only; rules never make a way longer.
                found = oracle.fewest_steps(listed, start)
                self.assertEqual(sorted(found), listed, (n, rules, start))
                for filling in listed:
                    self.assertEqual(least_steps(start, filling), found[filling], (n, start, filling))
                compared += len(listed)
                longest = max([longest] + list(found.values()))
        self.assertGreater(compared, 1000)
        self.assertGreater(longest, 2)

    def test_other_way_round(self):
        for n, rules, one, other in pairs():
            self.assertEqual(least_steps(one, other), least_steps(other, one))
            self.assertEqual(least_steps(one[::-1], other[::-1]), least_steps(one, other))
            turn = n // 2
            self.assertEqual(least_steps(one[turn:] + one[:turn], other[turn:] + other[:turn]), least_steps(one, other))

    def test_equal_fillings(self):
        for filling in ((0,), (BIG,), (0, 0), (1, 2, 3), (BIG,) * 12):
            self.assertEqual(least_steps(filling, filling), 0)

    def test_different_totals(self):
        for one, other in (
            ((1,), (2,)), ((0,), (BIG,)), ((1, 0), (0, 0)), ((BIG,) * 12, (BIG,) * 11 + (BIG - 1,)), ((0, 1), (1, 1)),
        ):
            self.assertIsNone(least_steps(one, other))
            self.assertIsNone(find_way(len(one), (), one, other))
            self.assertIs(way_holds(len(one), (), one, other, (one, other)), False)

    def test_half_is_rounded_up(self):
        for units in range(20):
            self.assertEqual(least_steps((units, 0), (0, units)), (units + 1) // 2)
        self.assertEqual(least_steps((BIG, 0), (0, BIG)), (BIG + 1) // 2)
        self.assertEqual(least_steps((BIG - 1,) + (0,) * 11, (0,) * 6 + (BIG - 1,) + (0,) * 5), (BIG - 1) // 2)
        self.assertEqual(least_steps((3, 0, 3, 0), (0, 3, 0, 3)), 2)


class Found(unittest.TestCase):
    def check(self, n, rules, one, other):
        way = promptly(find_way, n, rules, one, other)
        self.assertTrue(oracle.way_is_right(n, rules, one, other, way), (n, rules, one, other, way))
        self.assertEqual(len(way), least_steps(one, other) + 1)
        self.assertIs(promptly(way_holds, n, rules, one, other, way), True)
        return len(way) - 1

    def test_small_rings(self):
        for n, rules, listed in small_groups():
            for one in listed[::4]:
                for other in listed[::3]:
                    self.check(n, rules, one, other)

    def test_tight_rules_that_both_ends_fit(self):
        steps = [self.check(*pair) for pair in pairs()]
        self.assertGreater(sum(many > 10 for many in steps), 20)
        self.assertGreater(sum(len(rules) == 16 for n, rules, one, other in pairs()), 40)

    def test_counts_of_24_digits(self):
        self.assertGreater(sum(self.check(*pair) > 3 for pair in great_pairs()), 20)
        many = 10 ** 24 - 1
        self.check(12, (), (many,) * 12, (many - 11,) + (many + 1,) * 11)
        self.check(2, (), (many, 0), (many - 1000, 1000))

    def test_all_windows_of_a_size_have_the_same_sum(self):
        # Only fillings that repeat themselves fit, so all places have to move at once.
        rules = tuple((place, 2, 200, 200) for place in range(12))
        self.assertEqual(self.check(12, rules, (0, 200) * 6, (200, 0) * 6), 100)
        rules = tuple((place, 3, 9, 9) for place in range(12))
        self.assertEqual(self.check(12, rules, (9, 0, 0) * 4, (0, 0, 9) * 4), 5)

    def test_equal_fillings(self):
        for n, rules, one, other in pairs():
            self.assertEqual(find_way(n, rules, one, one), (one,))
        self.assertEqual(find_way(1, (), (BIG,), (BIG,)), ((BIG,),))

    def test_500_and_501_steps(self):
        rules = ((0, 1, 0, 2000), (1, 1, 0, None), (1, 2, 0, 10 ** 9))
        for units in (999, 1000):
            self.assertEqual(self.check(2, (), (units, 0), (0, units)), 500)
            self.assertEqual(self.check(2, rules, (units, 5), (0, units + 5)), 500)
        for units in (1001, 1002, 10 ** 9):
            self.too_many(2, (), (units, 0), (0, units))
        self.too_many(2, rules, (1001, 5), (0, 1006))
        self.too_many(12, (), (BIG,) + (0,) * 11, (0,) * 11 + (BIG,))
        rules = tuple((place, 2, 1000, 1000) for place in range(12)) + ((0, 12, 6000, 6000),) * 4
        self.assertEqual(self.check(12, rules, (0, 1000) * 6, (1000, 0) * 6), 500)
        rules = tuple((place, 2, 1001, 1001) for place in range(12))
        self.too_many(12, rules, (0, 1001) * 6, (1001, 0) * 6)

    def too_many(self, n, rules, one, other):
        self.assertGreater(least_steps(one, other), 500)
        with self.assertRaises(TooMany) as caught:
            promptly(find_way, n, rules, one, other)
        self.assertEqual(caught.exception.bound, 500)
        self.assertIsInstance(caught.exception, RingError)

    def test_different_totals_come_before_too_many(self):
        self.assertIsNone(find_way(2, (), (BIG, 0), (0, BIG - 1)))


class Accepted(unittest.TestCase):
    def refused(self, n, rules, one, other, value):
        self.assertIs(way_holds(n, rules, one, other, value), False, (n, rules, one, other, value))

    def test_ways_with_any_number_of_steps(self):
        one, middle, other = (1, 1, 0), (1, 0, 1), (0, 1, 1)
        for way in (
            (one, other), (one, one, other), (one, other, other), (one, middle, other), (one, other, one, other),
            (one, middle, one, middle, other), (one,) * 50 + (other,) * 50,
        ):
            self.assertIs(way_holds(3, TRIANGLE, one, other, way), True, way)
        for way in ((one,), (one, one), (one,) * 80, (one, other, one), (one, middle, other, one)):
            self.assertIs(way_holds(3, TRIANGLE, one, one, way), True, way)
        for way in ((), (one,), (other,), (other, one), (one, middle), (middle, other), (one, (1, 1, 1), other)):
            self.refused(3, TRIANGLE, one, other, way)
        self.refused(3, TRIANGLE, one, one, ())

    def test_every_pair_of_fillings(self):
        yes = no = 0
        for n in (1, 2, 3, 4):
            fillings = [filling for total in (0, 1, 3, 4) for filling in oracle.compositions(n, total)]
            for one in fillings:
                for other in fillings:
                    found = way_holds(n, (), one, other, (one, other))
                    self.assertIs(found, oracle.crosses(one, other), (one, other))
                    yes, no = yes + found, no + (not found)
        self.assertGreater(min(yes, no), 500)

    def test_a_step_of_one_unit_too_much(self):
        for base in (0, 10 ** 24):
            one = (base + 3, base, base)
            for units in range(4):
                other = (base + 3 - units, base + units, base)
                self.assertIs(way_holds(3, (), one, other, (one, other)), units <= 2)

    def test_ends_that_do_not_fit(self):
        self.refused(3, TRIANGLE, (2, 0, 0), (2, 0, 0), ((2, 0, 0),))
        self.refused(3, TRIANGLE, (1, 1, 0), (2, 0, 0), ((1, 1, 0), (2, 0, 0)))
        self.refused(3, TRIANGLE, (2, 0, 0), (1, 1, 0), ((2, 0, 0), (1, 1, 0)))

    def test_any_value(self):
        for n in (1, 3):
            one = (1,) + (0,) * (n - 1)
            self.refused(n, (), one, one, one)
            for value in JUNK + (0, 5, list(one), [one], {"0": one}, ((one,),), (one, None), (None, one), "1 0 0"):
                self.refused(n, (), one, one, value)
                self.refused(n, (), one, one, (one, value, one))
            for count in JUNK:
                self.refused(n, (), one, one, (one, (count,) + one[1:], one))
                self.refused(n, (), one, one, ((count,) + one[1:],))

    def test_another_number_of_places(self):
        self.refused(3, (), (1, 0, 0), (1, 0, 0), ((1, 0, 0), (1, 0), (1, 0, 0)))
        self.refused(3, (), (1, 0, 0), (1, 0, 0), ((1, 0, 0), (1, 0, 0, 0), (1, 0, 0)))

    def test_one_part_replaced_removed_or_repeated(self):
        refused = accepted = 0
        for step, (n, rules, one, other) in enumerate(list(pairs()) + list(great_pairs())):
            way = find_way(n, rules, one, other)
            if step % 4 or len(way) > 6:
                continue
            for value in changed(way):
                # A change can lead to another way, for instance if a filling comes twice.
                expected = oracle.way_is_right(n, rules, one, other, value)
                found = way_holds(n, rules, one, other, value)
                if found is not expected:
                    self.fail(f"{n}, {rules}, {one}, {other}, {value}: {found}")
                refused += not found
                accepted += found
        self.assertGreater(refused, 10000)
        self.assertGreater(accepted, 20)

    def test_parts_of_long_ways(self):
        one, other = (1000, 0, 0, 7), (0, 0, 1000, 7)
        way = find_way(4, (), one, other)
        self.assertEqual(len(way), 501)
        for at in (0, 1, 250, 499, 500):
            self.refused(4, (), one, other, way[:at] + way[at + 1:])
            self.refused(4, (), one, other, way[:at] + (way[at][::-1],) + way[at + 1:])
            self.refused(4, (), one, other, way[:at] + (list(way[at]),) + way[at + 1:])
            self.assertIs(promptly(way_holds, 4, (), one, other, way[:at] + way[at:at + 1] * 2 + way[at + 1:]), True)

    def test_bools_right_after_numbers(self):
        for n, rules, one, other in (
            (3, TRIANGLE, (1, 1, 0), (0, 1, 1)), (4, (), (3, 0, 0, 1), (0, 1, 3, 0)), (1, (), (1,), (1,)),
        ):
            way = find_way(n, rules, one, other)
            values = list(with_bools(way))
            self.assertGreater(len(values), 0)
            for value in values:
                self.assertIs(way_holds(n, rules, one, other, way), True)
                self.refused(n, rules, one, other, value)

    def test_lists_in_the_place_of_tuples(self):
        for n, rules, one, other in list(pairs())[:40]:
            way = find_way(n, rules, one, other)
            for value in list(with_lists(way)) + [[list(filling) for filling in way]]:
                self.refused(n, rules, one, other, value)


if __name__ == "__main__":
    unittest.main()
