"""Section 3, and [2] (c): the fillings of a total, and the possible sums of windows."""

import inspect
import unittest
from itertools import islice

from ringwindows.errors import RingError, TooMany
from ringwindows.fillings import (
    count_fillings, greatest_filling, next_filling, smallest_filling, walk_fillings, window_range,
)
from ringwindows.reasons import totals_of
from tests import oracle
from tests.oracle import LIMIT, TRIANGLE
from tests.tools import promptly

OTHER = ((0, 1, 2, 2), (0, 4, 5, 7))
BIG = 10 ** 30 - 1


def windows(n):
    return [(first, size) for first in range(n) for size in range(1, n + 1)]


def small_totals():
    """Yields small rings with totals, and the listing of all fillings."""
    for step, (n, rules) in enumerate(oracle.small_rings()):
        for total in range(0, (10, 10, 8, 6, 4, 4, 3)[n]):
            # On the greater rings not every total with every ring, to save time.
            if n < 4 or (step + total) % 2 == 0:
                yield n, rules, total, oracle.listed_fillings(n, rules, total)


def close_totals():
    """Yields close rings with totals: of the filling that fits, near to it, at both ends, beyond them, very great."""
    for n, rules, hidden in oracle.close_rings():
        low, high = totals_of(n, rules)
        totals = {sum(hidden), sum(hidden) + 1, low - 1, low, low + 1, BIG, 10 ** 29 + 7}
        if high is not None:
            totals |= {high - 1, high, high + 1}
        for total in sorted(totals - {-1}):
            yield n, rules, total


class Examples(unittest.TestCase):
    def test_window_range(self):
        self.assertEqual(
            [window_range(4, OTHER, 6, 1, 2), window_range(3, TRIANGLE, 2, 0, 1), window_range(3, TRIANGLE, 4, 0, 1)],
            [(0, 4), (0, 1), None])

    def test_smallest_and_greatest(self):
        self.assertEqual(
            [smallest_filling(3, TRIANGLE, 2), greatest_filling(3, TRIANGLE, 2), smallest_filling(3, TRIANGLE, 1)],
            [(0, 1, 1), (1, 1, 0), None])

    def test_next(self):
        self.assertEqual(
            [next_filling(3, TRIANGLE, (0, 1, 1)), next_filling(3, TRIANGLE, (1, 1, 0))], [(1, 0, 1), None])

    def test_walk(self):
        self.assertEqual(list(walk_fillings(3, TRIANGLE, 2)), [(0, 1, 1), (1, 0, 1), (1, 1, 0)])

    def test_count(self):
        self.assertEqual(
            [count_fillings(3, TRIANGLE, 2), count_fillings(3, TRIANGLE, 3), count_fillings(2, (), 499)], [3, 1, 500])


class Listed(unittest.TestCase):
    """Against a listing of all fillings."""

    def test_the_listing_itself(self):
        self.assertEqual(list(oracle.compositions(2, 2)), [(0, 2), (1, 1), (2, 0)])
        for n, rules, total, listed in small_totals():
            self.assertEqual(listed, sorted(listed))
            self.assertIs(oracle.can_fill(n, rules, total), listed != [])

    def test_smallest_and_greatest(self):
        found = 0
        for n, rules, total, listed in small_totals():
            self.assertEqual(smallest_filling(n, rules, total), listed[0] if listed else None, (n, rules, total))
            self.assertEqual(greatest_filling(n, rules, total), listed[-1] if listed else None, (n, rules, total))
            found += listed != []
        self.assertGreater(found, 500)

    def test_next_of_each(self):
        for n, rules, total, listed in small_totals():
            found = [next_filling(n, rules, filling) for filling in listed]
            self.assertEqual(found, (listed + [None])[1:], (n, rules, total))

    def test_walk_and_number(self):
        numbers = set()
        for n, rules, total, listed in small_totals():
            self.assertEqual(list(walk_fillings(n, rules, total)), listed, (n, rules, total))
            self.assertEqual(count_fillings(n, rules, total), len(listed), (n, rules, total))
            numbers.add(len(listed))
        self.assertGreater(len(numbers), 20)

    def test_sums_of_every_window(self):
        for n, rules, total, listed in small_totals():
            for first, size in windows(n):
                sums = {oracle.units(filling, first, size) for filling in listed}
                found = window_range(n, rules, total, first, size)
                if listed:
                    self.assertEqual(found, (min(sums), max(sums)), (n, rules, total, first, size))
                    # Exactly the numbers of one interval.
                    self.assertEqual(sums, set(range(found[0], found[1] + 1)))
                else:
                    self.assertIsNone(found)


class Close(unittest.TestCase):
    """On rings with too many fillings to list: what is returned fits, and nothing is left out."""

    def fits(self, n, rules, total, filling):
        self.assertTrue(oracle.filling_is_right(n, filling), (n, rules, total, filling))
        self.assertTrue(oracle.fit(rules, filling), (n, rules, total, filling))
        self.assertEqual(sum(filling), total)

    def none_lower(self, n, rules, filling, first):
        """Fails if there is a smaller filling that has all counts before the place first in common."""
        for at in range(first, n):
            if filling[at] > 0:
                lower = oracle.counts_fixed(filling, at) + ((at, 1, 0, filling[at] - 1),)
                self.assertFalse(oracle.can_fill(n, rules + lower, sum(filling)), (n, rules, filling, at))

    def none_higher(self, n, rules, filling, first):
        """Fails if there is a greater filling that has all counts before the place first in common."""
        for at in range(first, n):
            higher = oracle.counts_fixed(filling, at) + ((at, 1, filling[at] + 1, None),)
            self.assertFalse(oracle.can_fill(n, rules + higher, sum(filling)), (n, rules, filling, at))

    def test_nothing_is_smaller_or_greater(self):
        kinds = {"none": 0, "some": 0, "thirty digits": 0}
        for n, rules, total in close_totals():
            smallest = promptly(smallest_filling, n, rules, total)
            greatest = promptly(greatest_filling, n, rules, total)
            if smallest is None:
                self.assertIsNone(greatest)
                self.assertFalse(oracle.can_fill(n, rules, total))
                self.assertEqual(list(walk_fillings(n, rules, total)), [])
                self.assertEqual(count_fillings(n, rules, total), 0)
                kinds["none"] += 1
                continue
            kinds["some"] += 1
            kinds["thirty digits"] += total >= 10 ** 29
            self.fits(n, rules, total, smallest)
            self.fits(n, rules, total, greatest)
            self.none_lower(n, rules, smallest, 0)
            self.none_higher(n, rules, greatest, 0)
        self.assertGreater(min(kinds.values()), 90, kinds)

    def between_is_nothing(self, n, rules, one, other):
        """Fails if there is a filling between two fillings, the second of which is greater."""
        self.assertLess(one, other)
        at = [before == after for before, after in zip(one, other)].index(False)
        self.none_higher(n, rules, one, at + 1)
        self.none_lower(n, rules, other, at + 1)
        if other[at] - one[at] > 1:
            between = oracle.counts_fixed(one, at) + ((at, 1, one[at] + 1, other[at] - 1),)
            self.assertFalse(oracle.can_fill(n, rules + between, sum(one)), (n, rules, one, other))

    def test_nothing_is_between(self):
        steps = ends = jumps = 0
        for n, rules, total in close_totals():
            walked = list(islice(walk_fillings(n, rules, total), 4))
            for at, filling in enumerate(walked):
                self.fits(n, rules, total, filling)
                after = promptly(next_filling, n, rules, filling)
                if after is None:
                    self.assertEqual(at, len(walked) - 1)
                    self.none_higher(n, rules, filling, 0)
                    ends += 1
                else:
                    self.fits(n, rules, total, after)
                    self.assertIn(after, walked[at + 1:at + 2] or [after])
                    self.between_is_nothing(n, rules, filling, after)
                    steps += 1
                    jumps += filling[:n - 2] != after[:n - 2]
            if walked:
                greatest = greatest_filling(n, rules, total)
                self.assertIsNone(next_filling(n, rules, greatest))
        self.assertGreater(min(steps, ends, jumps), 90, (steps, ends, jumps))

    def test_next_of_a_filling_in_the_middle(self):
        steps = 0
        for n, rules, hidden in oracle.close_rings():
            after = promptly(next_filling, n, rules, hidden)
            if after is None:
                self.none_higher(n, rules, hidden, 0)
            else:
                self.fits(n, rules, sum(hidden), after)
                self.between_is_nothing(n, rules, hidden, after)
                steps += 1
        self.assertGreater(steps, 50)

    def test_sums_of_windows(self):
        for step, (n, rules, total) in enumerate(close_totals()):
            for first, size in windows(n)[step % 7::7] + [(step % n, n)]:
                found = promptly(window_range, n, rules, total, first, size)
                if not oracle.can_fill(n, rules, total):
                    self.assertIsNone(found)
                    continue
                least, most = found
                for low, high, expected in (
                    (least, least, True), (most, most, True), ((least + most) // 2, (least + most) // 2, True),
                    (0, least - 1, False), (most + 1, None, False),
                ):
                    window = ((first, size, low, high),)
                    self.assertIs(oracle.can_fill(n, rules + window, total), expected, (n, rules, total, window))
                if size == n:
                    self.assertEqual(found, (total, total))


class Edges(unittest.TestCase):
    def test_without_rules(self):
        for n in (1, 2, 11, 12):
            for total in (0, 1, LIMIT, BIG):
                self.assertEqual(smallest_filling(n, (), total), (0,) * (n - 1) + (total,))
                self.assertEqual(greatest_filling(n, (), total), (total,) + (0,) * (n - 1))
                for first, size in windows(n):
                    expected = (total, total) if size == n else (0, total)
                    self.assertEqual(window_range(n, (), total, first, size), expected)
        self.assertEqual(next_filling(12, (), (0,) * 11 + (BIG,)), (0,) * 10 + (1, BIG - 1))
        self.assertEqual(next_filling(12, (), (0,) * 10 + (BIG, 0)), (0,) * 9 + (1, 0, BIG - 1))
        self.assertIsNone(next_filling(12, (), (BIG,) + (0,) * 11))

    def test_one_place(self):
        rules = ((0, 1, 2, 5), (0, 1, 0, None), (0, 1, 3, 9))
        for total in range(8):
            possible = 3 <= total <= 5
            self.assertEqual(smallest_filling(1, rules, total), (total,) if possible else None)
            self.assertEqual(greatest_filling(1, rules, total), (total,) if possible else None)
            self.assertEqual(window_range(1, rules, total, 0, 1), (total, total) if possible else None)
            self.assertEqual(list(walk_fillings(1, rules, total)), [(total,)] if possible else [])
            self.assertEqual(count_fillings(1, rules, total), int(possible))
            if possible:
                self.assertIsNone(next_filling(1, rules, (total,)))

    def test_no_total_is_possible(self):
        for n, rules in list(oracle.rounding_rings()) + [(2, ((0, 1, 3, 2),)), (1, ((0, 1, LIMIT, 0),))]:
            for total in (0, 1, sum(rule[2] for rule in rules) // rules[0][1], LIMIT, BIG):
                self.assertIsNone(smallest_filling(n, rules, total))
                self.assertIsNone(greatest_filling(n, rules, total))
                self.assertIsNone(window_range(n, rules, total, n - 1, n))
                self.assertEqual(list(walk_fillings(n, rules, total)), [])
                self.assertEqual(count_fillings(n, rules, total), 0)

    def test_windows_over_the_last_place(self):
        rules = ((11, 2, 5, 5), (0, 1, 0, 3))
        self.assertEqual(window_range(12, rules, 7, 11, 1), (2, 5))
        self.assertEqual(window_range(12, rules, 7, 10, 4), (5, 7))
        self.assertEqual(window_range(12, rules, 7, 1, 10), (2, 2))
        self.assertEqual(window_range(12, rules, 7, 0, 12), (7, 7))
        self.assertEqual(window_range(12, rules, 7, 11, 12), (7, 7))
        self.assertEqual(smallest_filling(12, rules, 7), (0,) * 10 + (2, 5))
        self.assertEqual(greatest_filling(12, rules, 7), (3, 2) + (0,) * 9 + (2,))

    def test_totals_are_the_possible_ones(self):
        for n, rules in list(oracle.great_rings())[::4] + list(oracle.wild_rings())[::8]:
            totals = totals_of(n, rules)
            if totals is None:
                self.assertIsNone(smallest_filling(n, rules, sum(rule[2] for rule in rules)))
                continue
            low, high = totals
            for total in {0, low - 1, low, low + 1, BIG} | ({high - 1, high, high + 1} if high is not None else set()):
                if total >= 0:
                    possible = low <= total and (high is None or total <= high)
                    self.assertIs(smallest_filling(n, rules, total) is not None, possible)

    def test_somewhat_beyond_the_limits(self):
        rules = tuple((first, 2, 1, 2 * LIMIT) for first in range(13)) * 2
        self.assertEqual(smallest_filling(13, rules, 7), (0, 1) * 5 + (0, 1, 1))
        self.assertIsNone(smallest_filling(3, TRIANGLE, -1))
        self.assertEqual(list(walk_fillings(1, (), -1)), [])
        self.assertEqual(smallest_filling(2, (), 10 ** 40), (0, 10 ** 40))


class Walks(unittest.TestCase):
    def test_it_is_a_generator(self):
        self.assertTrue(inspect.isgeneratorfunction(walk_fillings))
        walk = walk_fillings(3, TRIANGLE, 2)
        self.assertEqual([next(walk), next(walk), next(walk)], [(0, 1, 1), (1, 0, 1), (1, 1, 0)])
        with self.assertRaises(StopIteration):
            next(walk)
        with self.assertRaises(StopIteration):
            next(walk)
        with self.assertRaises(StopIteration):
            next(walk_fillings(3, TRIANGLE, 4))

    def test_two_walks_side_by_side(self):
        listed = oracle.listed_fillings(4, OTHER, 6)
        one, other = walk_fillings(4, OTHER, 6), walk_fillings(4, OTHER, 6)
        self.assertEqual(next(one), listed[0])
        self.assertEqual(next(one), listed[1])
        self.assertEqual(list(zip(other, one)), list(zip(listed, listed[2:])))

    def test_walks_of_different_rings_side_by_side(self):
        rings = ((4, OTHER, 6), (3, TRIANGLE, 2), (4, OTHER[::-1], 7), (3, (), 3), (4, OTHER, 8))
        walks = [walk_fillings(*ring) for ring in rings]
        found = [[] for ring in rings]
        for step in range(60):
            for ring, walk, seen in zip(rings, walks, found):
                filling = next(walk, None)
                if filling is not None:
                    seen.append(filling)
                    # Other calls in between must not disturb a walk.
                    next_filling(ring[0], ring[1], filling)
                    count_fillings(*ring)
        self.assertEqual(found, [oracle.listed_fillings(*ring) for ring in rings])

    def test_first_fillings_come_without_looking_for_all(self):
        def first_ones(n, rules, total):
            return list(islice(walk_fillings(n, rules, total), 300))

        for n, rules in ((12, ()), (12, tuple((place, 3, 10 ** 6, LIMIT) for place in range(12))), (2, ())):
            for total in (4 * 10 ** 6, 10 ** 9, BIG):
                if totals_of(n, rules)[1] is None or total <= totals_of(n, rules)[1]:
                    found = promptly(first_ones, n, rules, total)
                    self.assertEqual(len(found), 300)
                    self.assertEqual(found, sorted(set(found)))
                    self.assertEqual(found[0], smallest_filling(n, rules, total))
        self.assertEqual(first_ones(2, (), BIG), [(count, BIG - count) for count in range(300)])
        self.assertEqual(
            first_ones(12, (), BIG)[:3], [(0,) * 11 + (BIG,), (0,) * 10 + (1, BIG - 1), (0,) * 10 + (2, BIG - 2)])


class Numbers(unittest.TestCase):
    def too_many(self, n, rules, total):
        with self.assertRaises(TooMany) as caught:
            promptly(count_fillings, n, rules, total)
        self.assertEqual(caught.exception.bound, 500)
        self.assertIsInstance(caught.exception, RingError)

    def test_500_and_501(self):
        self.assertEqual(promptly(count_fillings, 2, (), 499), 500)
        self.too_many(2, (), 500)
        for total in (1000, LIMIT, BIG):
            self.assertEqual(count_fillings(3, ((0, 1, 0, 19), (1, 1, 0, 24)), total), 500)
            self.too_many(3, ((0, 1, 0, 2), (1, 1, 0, 166)), total)
        nine = tuple((place, 1, 0, 1) for place in range(9))
        self.assertEqual(count_fillings(12, nine + ((9, 3, 0, 0),), 4), 126)
        self.assertEqual(count_fillings(12, nine + ((9, 1, 0, 499), (10, 2, 1, 1), (11, 10, 0, 0)), 500), 1)
        self.assertEqual(count_fillings(12, ((0, 10, 0, 0), (10, 1, 1, 500)), 10 ** 29), 500)
        self.too_many(12, ((0, 10, 0, 0), (10, 1, 0, 500)), 10 ** 29)

    def test_very_many(self):
        self.too_many(12, (), BIG)
        self.too_many(12, tuple((place, 3, 10 ** 6, LIMIT) for place in range(12)), 10 ** 9)

    def test_a_walk_may_be_longer(self):
        self.assertEqual(len(list(walk_fillings(2, (), 2000))), 2001)

    def test_zero_and_one(self):
        self.assertEqual(count_fillings(12, (), 0), 1)
        self.assertEqual(count_fillings(3, TRIANGLE, 1), 0)
        self.assertEqual(count_fillings(3, TRIANGLE, BIG), 0)
        self.assertEqual(count_fillings(12, tuple((place, 1, 5, 5) for place in range(12)), 60), 1)


if __name__ == "__main__":
    unittest.main()
