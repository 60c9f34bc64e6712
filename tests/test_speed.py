"""Some hundred questions about fillings of 12 places in a row: the answers, and the time that they take.

Times are compared with that of a plain closure over all places in the same run, so that a slow machine does not matter.
"""

import unittest
from itertools import islice
from time import perf_counter

from ringwindows.fillings import greatest_filling, next_filling, smallest_filling, walk_fillings, window_range
from ringwindows.reasons import totals_of
from tests import oracle
from tests.tools import promptly

FEW = ((0, 5, 3, 50), (3, 4, 1, 20), (7, 8, 10, None), (11, 2, 0, 9))

# Rules of 12 places with a total that is possible: few, many, all places fixed to each other, and in reverse order.
RINGS = (
    (FEW, 60), ((), 60),
    (tuple((place, 3, 4, 9) for place in range(12)) + tuple((place, 7, 12, 30) for place in range(4)), 20),
    (tuple((place, 2, 5, 5) for place in range(12)) + tuple((place, 4, 10, 10) for place in range(4)), 30),
    (tuple((11 - place, 1, 1, 2) for place in range(12)) + tuple((place, 11, 0, 30) for place in range(4)), 18),
)

# And with totals that are not.
IMPOSSIBLE = (
    (FEW, 9), (FEW, 0), (tuple((place, 2, 5, 5) for place in range(12)) + ((0, 1, 6, 9),) * 4, 30),
    (tuple((place, 5, 10 ** 6 + 1, 10 ** 6 + 1) for place in range(12)), (10 ** 6 + 1) * 12 // 5),
    (tuple((place, 11, 0, 50) for place in range(12)) + ((0, 1, 0, 1),) * 4, 54),
)


def all_differences(n, rules, total):
    """The least differences between the sums before all places, as a table, or None if the total is not possible."""
    table = [[0 if a <= b else -total for b in range(n)] for a in range(n)]
    for a, b, difference in oracle.differences(n, rules, total):
        # The sum before place n is that before place 0 and the total.
        difference += total * ((a == n) - (b == n))
        table[a % n][b % n] = max(table[a % n][b % n], difference)
    for middle in range(n):
        onward = table[middle]
        table = [[max(old, row[middle] + more) for old, more in zip(row, onward)] for row in table]
    return None if any(table[place][place] > 0 for place in range(n)) else table


def expected_range(table, n, total, first, size):
    if table is None:
        return None
    end = (first + size) % n
    passed = total if first + size >= n else 0
    return (passed + table[first][end], passed - table[end][first])


def rings_of_twelve():
    yield from RINGS + IMPOSSIBLE
    for n, rules, hidden in oracle.close_rings():
        if n == 12:
            yield rules, sum(hidden)
            yield rules, sum(hidden) + 1
    for n, rules in list(oracle.wild_rings())[::4]:
        totals = totals_of(n, rules)
        yield rules, 9 if totals is None else totals[0]
        yield rules, 10 ** 30 - 1


def fixed_one_by_one(rules, total, side):
    """The filling that a caller finds who asks for the range of each place, and fixes its count to one end of it."""
    counts = ()
    for place in range(12):
        fixed = oracle.counts_fixed(counts, place)
        counts += (window_range(12, rules + fixed, total, place, 1)[side],)
    return counts


def seconds(function, times):
    start = perf_counter()
    for step in range(times):
        function()
    return perf_counter() - start


class Answers(unittest.TestCase):
    def test_the_table_itself(self):
        for n, rules in oracle.small_rings():
            for total in range(4):
                listed = oracle.listed_fillings(n, rules, total)
                table = all_differences(n, rules, total)
                self.assertIs(table is None, listed == [])
                for first in range(n) if listed else ():
                    sums = [oracle.units(filling, first, n // 2 + 1) for filling in listed]
                    self.assertEqual(expected_range(table, n, total, first, n // 2 + 1), (min(sums), max(sums)))

    def test_every_window(self):
        possible = 0
        for rules, total in rings_of_twelve():
            table = all_differences(12, rules, total)
            possible += table is not None
            for first in range(12):
                for size in range(1, 13):
                    found = window_range(12, rules, total, first, size)
                    self.assertEqual(found, expected_range(table, 12, total, first, size), (rules, total, first, size))
        self.assertGreater(possible, 80)

    def test_both_ends(self):
        for rules, total in rings_of_twelve():
            table = all_differences(12, rules, total)
            if table is None:
                self.assertIsNone(smallest_filling(12, rules, total))
                self.assertIsNone(greatest_filling(12, rules, total))
                continue
            low, high = table[0] + [total], [-row[0] for row in table] + [total]
            self.assertEqual(smallest_filling(12, rules, total), tuple(b - a for a, b in zip(low, low[1:])))
            self.assertEqual(greatest_filling(12, rules, total), tuple(b - a for a, b in zip(high, high[1:])))

    def test_counts_fixed_one_by_one(self):
        for rules, total in RINGS:
            self.assertEqual(fixed_one_by_one(rules, total, 0), smallest_filling(12, rules, total))
            self.assertEqual(fixed_one_by_one(rules, total, 1), greatest_filling(12, rules, total))

    def test_next_as_the_walk_goes_on(self):
        for rules, total in RINGS:
            walked = list(islice(walk_fillings(12, rules, total), 300))
            for filling, after in zip(walked, walked[1:]):
                self.assertEqual(next_filling(12, rules, filling), after)


class Times(unittest.TestCase):
    def faster(self, function, other, times):
        """Fails if the function never takes less than 1 / times of the time that the other one takes."""
        fast, slow = [], []
        for step in range(30):
            fast.append(seconds(function, 30))
            slow.append(seconds(other, 30))
            if step > 1 and min(fast) * times < min(slow):
                return
        self.fail(f"{min(fast)} seconds, and {min(slow)} of the other")

    def test_a_third_of_the_time(self):
        for rules, total in RINGS + IMPOSSIBLE:
            plain = lambda: all_differences(12, rules, total)
            self.faster(lambda: window_range(12, rules, total, 0, 1), plain, 3)
            self.faster(lambda: window_range(12, rules, total, 7, 6), plain, 3)
            self.faster(lambda: smallest_filling(12, rules, total), plain, 3)
            self.faster(lambda: greatest_filling(12, rules, total), plain, 3)
        for rules, total in RINGS:
            plain = lambda: all_differences(12, rules, total)
            for filling in (smallest_filling(12, rules, total), greatest_filling(12, rules, total)):
                self.faster(lambda: next_filling(12, rules, filling), plain, 3)

    def test_a_walk_is_faster_than_one_question_for_each_filling(self):
        for rules, total in RINGS[:3]:
            walked = list(islice(walk_fillings(12, rules, total), 300))
            self.assertEqual(len(walked), 300)
            self.faster(
                lambda: list(islice(walk_fillings(12, rules, total), 300)),
                lambda: [next_filling(12, rules, filling) for filling in walked], 1)

    def test_some_hundred_calls(self):
        for rules, total in RINGS:
            promptly(lambda: [window_range(12, rules, total, step % 12, step % 11 + 1) for step in range(500)])
            promptly(lambda: [smallest_filling(12, rules, total + step % 3) for step in range(500)])
            promptly(lambda: [greatest_filling(12, rules, total + step % 3) for step in range(500)])
            filling = smallest_filling(12, rules, total)
            promptly(lambda: [next_filling(12, rules, filling) for step in range(500)])
            promptly(lambda: [fixed_one_by_one(rules, total, step % 2) for step in range(20)])


if __name__ == "__main__":
    unittest.main()
