"""Section 5, and [2] (e): even parts of a filling, sums of fillings, and rules for the whole."""

import unittest
from random import Random

from ringwindows.errors import NotAlike, NotDivisible, OutOfRange, RingError
from ringwindows.parts import joined, parts_of, scaled_rules
from tests import oracle
from tests.oracle import LIMIT, TRIANGLE
from tests.tools import outcome, promptly, same

BIG = 10 ** 30 - 1


def cases():
    """Yields fillings and numbers of parts, from 1 to 100, that divide their totals."""
    random = Random(50)
    for many in list(range(1, 101)) * 3:
        n = random.choice([1, 2, 3, 5, 8, 11, 12, 12])
        reach = random.choice([1, 3, 100, LIMIT, 10 ** 28])
        filling = [random.choice([0, random.randint(0, reach), reach]) for place in range(n)]
        filling[random.randrange(n)] += -sum(filling) % many
        yield tuple(filling), many


def windows(n):
    return [(first, size) for first in range(n) for size in range(1, n + 1)]


class Parts(unittest.TestCase):
    def test_examples(self):
        self.assertEqual(
            [parts_of((4, 2, 0), 2), parts_of((3, 1, 0), 2)], [((2, 1, 0), (2, 1, 0)), ((1, 1, 0), (2, 0, 0))])

    def test_counts_as_the_document_says(self):
        for filling, many in cases():
            parts = promptly(parts_of, filling, many)
            self.assertEqual(len(parts), many)
            for r, part in enumerate(parts):
                expected = [
                    (sum(filling[:j + 1]) + r) // many - (sum(filling[:j]) + r) // many for j in range(len(filling))
                ]
                self.assertTrue(same(part, tuple(expected)), (filling, many, r))

    def test_parts_are_fillings_that_sum_up(self):
        for filling, many in cases():
            parts = parts_of(filling, many)
            self.assertIs(type(parts), tuple)
            self.assertTrue(all(oracle.filling_is_right(len(filling), part) for part in parts))
            self.assertEqual(tuple(sum(counts) for counts in zip(*parts)), filling)
            self.assertTrue(same(joined(*parts), filling))

    def test_sums_of_all_windows(self):
        rounded = 0
        for filling, many in list(cases())[::2]:
            parts = parts_of(filling, many)
            for first, size in windows(len(filling)):
                whole = oracle.units(filling, first, size)
                for part in parts:
                    units = oracle.units(part, first, size)
                    self.assertIn(units, (whole // many, -(-whole // many)), (filling, many, first, size))
                    rounded += whole % many != 0
        self.assertGreater(rounded, 10000)

    def test_one_part(self):
        for filling in ((0,), (BIG,), (0, 0), (5, 0, 3), (BIG,) * 12):
            self.assertEqual(parts_of(filling, 1), (filling,))

    def test_nothing_to_divide(self):
        self.assertEqual(parts_of((0, 0), 100), ((0, 0),) * 100)
        self.assertEqual(parts_of((0,), 3), ((0,),) * 3)

    def test_a_hundred_parts(self):
        self.assertEqual(parts_of((100,), 100), ((1,),) * 100)
        self.assertEqual(parts_of((99, 1), 100), ((0, 1),) + ((1, 0),) * 99)
        self.assertEqual(parts_of((1, 99), 100), ((0, 1),) * 99 + ((1, 0),))
        self.assertEqual(sum(part[0] for part in promptly(parts_of, (BIG,) * 11 + (BIG - 99 * 12 % 100,), 100)), BIG)

    def test_totals_that_are_not_divisible(self):
        refused = 0
        for total in list(range(0, 205)) + [LIMIT, LIMIT + 1, BIG]:
            for filling in ((total,), (0, total), (total - total // 3, 0, total // 3)):
                for many in (1, 2, 3, 7, 10, 64, 99, 100):
                    found = outcome(parts_of, filling, many)
                    if total % many == 0:
                        self.assertEqual(found[0], "returns")
                    else:
                        self.assertEqual(found, ("raises", "NotDivisible", {"number": total}))
                        refused += 1
        self.assertGreater(refused, 1000)

    def test_its_own_error_only(self):
        with self.assertRaises(NotDivisible) as caught:
            parts_of((3, 4, 0), 2)
        self.assertIs(caught.exception.__class__, NotDivisible)
        self.assertIsInstance(caught.exception, RingError)
        self.assertEqual(caught.exception.number, 7)


class Joined(unittest.TestCase):
    def test_examples(self):
        self.assertEqual([joined((1, 1, 0), (2, 0, 0)), joined((7,))], [(3, 1, 0), (7,)])

    def test_place_by_place(self):
        random = Random(51)
        for n in (1, 2, 5, 12):
            for many in (1, 2, 3, 20):
                fillings = [tuple(random.choice([0, 1, BIG]) for place in range(n)) for index in range(many)]
                expected = tuple(sum(filling[place] for filling in fillings) for place in range(n))
                self.assertTrue(same(promptly(joined, *fillings), expected))

    def test_another_number_of_places(self):
        short, three, long = (1, 1), (1, 1, 1), (1, 1, 1, 1)
        for fillings, index in (
            ((three, short), 1), ((three, long), 1), ((short, three), 1), ((three, three, long), 2),
            ((three, short, long), 1), ((three, three, three, (1,)), 3), (((1,), (0,) * 12), 1),
            ((short, short, three, short), 2), ((short, three, three, three), 1), ((three,) * 19 + (short, long), 19),
        ):
            self.assertEqual(outcome(joined, *fillings), ("raises", "NotAlike", {"index": index}))
        with self.assertRaises(NotAlike) as caught:
            joined(three, short)
        self.assertIsInstance(caught.exception, RingError)


class Scaled(unittest.TestCase):
    def test_examples(self):
        self.assertEqual(scaled_rules(((0, 2, 1, None), (1, 1, 0, 2)), 3), ((0, 2, 3, None), (1, 1, 0, 6)))

    def test_each_least_and_each_most(self):
        for many in (1, 2, 7, 100):
            for n, rules in list(oracle.small_rings())[::5]:
                expected = tuple(
                    (first, size, least * many, None if most is None else most * many)
                    for first, size, least, most in rules)
                self.assertTrue(same(promptly(scaled_rules, rules, many), expected))
        self.assertEqual(scaled_rules((), 100), ())
        self.assertEqual(scaled_rules(TRIANGLE, 1), TRIANGLE)
        self.assertEqual(scaled_rules(((0, 1, 5, 2),), 2), ((0, 1, 10, 4),))

    def test_exactly_the_limit_and_beyond(self):
        self.assertEqual(scaled_rules(((0, 1, LIMIT, LIMIT),), 1), ((0, 1, LIMIT, LIMIT),))
        for many in (2, 5, 8, 10, 64, 100):
            top = LIMIT // many
            self.assertEqual(scaled_rules(((0, 1, top, top), (1, 2, top, None)), many)[0], (0, 1, LIMIT, LIMIT))
            for rule in ((0, 1, top + 1, None), (0, 1, 0, top + 1), (0, 1, top + 1, top), (0, 1, LIMIT, LIMIT)):
                for rules in ((rule,), (rule, (0, 1, 0, 0)), ((0, 1, 0, 0), (0, 1, 1, None), rule), (rule,) * 16):
                    self.assertEqual(outcome(scaled_rules, rules, many), ("raises", "OutOfRange", {}))
        for many, top in ((3, 333333333), (7, 142857142), (99, 10101010)):
            self.assertEqual(scaled_rules(((0, 1, top, top),), many), ((0, 1, top * many, top * many),))
            self.assertEqual(outcome(scaled_rules, ((0, 1, 0, top + 1),), many), ("raises", "OutOfRange", {}))
        with self.assertRaises(OutOfRange) as caught:
            scaled_rules(((0, 1, LIMIT, None),), 2)
        self.assertIsInstance(caught.exception, RingError)

    def test_parts_fit_if_the_whole_fits_the_scaled_rules(self):
        checked = 0
        for n, rules in oracle.small_rings():
            for many in (2, 3):
                scaled = scaled_rules(rules, many)
                for total in range(0, (13, 13, 13, 13, 7, 7, 7)[n], many):
                    for filling in oracle.listed_fillings(n, scaled, total)[::9]:
                        for part in parts_of(filling, many):
                            self.assertTrue(oracle.fit(rules, part), (n, rules, filling, many))
                            checked += 1
        self.assertGreater(checked, 2000)


if __name__ == "__main__":
    unittest.main()
