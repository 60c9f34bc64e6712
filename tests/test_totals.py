"""Promise [2] (a), (b), (f) for totals, and totals_of against a listing of all fillings."""

import unittest

from ringwindows.reasons import find_certificate, totals_of
from ringwindows.rules import mirrored_rules, turned_rules
from tests import oracle
from tests.oracle import LIMIT, TRIANGLE


class Totals(unittest.TestCase):
    def test_example(self):
        other = ((0, 1, 2, 2), (0, 4, 5, 7))
        self.assertEqual(
            [totals_of(3, TRIANGLE), totals_of(4, other), totals_of(3, ((0, 2, 1, None),)),
             totals_of(2, ((0, 1, 3, 2),))],
            [(2, 3), (5, 7), (1, None), None])

    def test_edges(self):
        for n, rules, expected in (
            (1, (), (0, None)),
            (12, (), (0, None)),
            (1, ((0, 1, 0, 0),), (0, 0)),
            (1, ((0, 1, LIMIT, LIMIT),), (LIMIT, LIMIT)),
            (1, ((0, 1, LIMIT, None),), (LIMIT, None)),
            (1, ((0, 1, LIMIT, 0),), None),
            (1, ((0, 1, 5, 4),), None),
            (1, ((0, 1, 5, 5),), (5, 5)),
            (12, ((11, 2, 3, None),), (3, None)),
            (12, ((7, 12, 3, 9),), (3, 9)),
            (12, ((7, 12, 9, 3),), None),
            (12, ((7, 12, 3, None), (2, 12, 0, 2)), None),
            (12, tuple((place, 1, LIMIT, LIMIT) for place in range(12)), (12 * LIMIT, 12 * LIMIT)),
            (12, tuple((place, 1, 0, LIMIT) for place in range(12)), (0, 12 * LIMIT)),
            (12, tuple((place, 1, LIMIT, None) for place in range(12)), (12 * LIMIT, None)),
            (12, tuple((place, 1, 0, LIMIT) for place in range(11)), (0, None)),
            (12, tuple((place, 1, 0, 1) for place in range(11)) + ((11, 1, 0, None),), (0, None)),
            (12, ((5, 12, 0, LIMIT),) * 16, (0, LIMIT)),
            (3, ((0, 2, 1, 1), (1, 2, 1, 1), (2, 2, 1, 1)), None),
            (3, ((0, 2, 2, 2), (1, 2, 2, 2), (2, 2, 2, 2)), (3, 3)),
        ):
            with self.subTest(n=n, rules=rules):
                self.assertEqual(totals_of(n, rules), expected)
                self.assertIn(type(totals_of(n, rules)), (tuple, type(None)))

    def test_against_the_listing(self):
        answers = []
        for n, rules in oracle.small_rings():
            found = totals_of(n, rules)
            answers.append(found)
            with self.subTest(n=n, rules=rules):
                self.assertEqual(found, oracle.listed_totals(n, rules))
        # The rings are of use only if each kind of answer is frequent among them.
        self.assertGreater(sum(answer is None for answer in answers), 50)
        self.assertGreater(sum(answer is not None and answer[1] is None for answer in answers), 50)
        self.assertGreater(sum(answer is not None and answer[1] is not None for answer in answers), 50)

    def test_every_number_of_the_interval_is_possible(self):
        for n, rules in oracle.small_rings():
            found = totals_of(n, rules)
            if found is not None and found[1] is not None:
                listed = {sum(filling) for filling in oracle.all_fillings(n, rules)}
                self.assertEqual(listed, set(range(found[0], found[1] + 1)))

    def test_one_more_changes_an_end_by_at_most_one(self):
        rings = list(oracle.small_rings())[::5] + list(oracle.great_rings())[:150]
        for n, rules in rings:
            before = totals_of(n, rules)
            for at, (first, size, least, most) in enumerate(rules):
                changed = [(first, size, min(LIMIT, least + 1), most)]
                if most:
                    changed.append((first, size, least, most - 1))
                for rule in changed:
                    after = totals_of(n, rules[:at] + (rule,) + rules[at + 1:])
                    if after is None:
                        continue
                    self.assertIn(after[0] - before[0], (0, 1))
                    if before[1] is None:
                        self.assertIsNone(after[1])
                    else:
                        self.assertIn(before[1] - after[1], (0, 1))

    def test_renamed_places_have_the_same_totals(self):
        for n, rules in list(oracle.great_rings())[:150]:
            self.assertEqual(totals_of(n, mirrored_rules(n, rules)), totals_of(n, rules))
            self.assertEqual(totals_of(n, turned_rules(n, rules, n // 2)), totals_of(n, rules))

    def test_order_and_repetition_of_rules(self):
        for n, rules in list(oracle.great_rings())[:150]:
            self.assertEqual(totals_of(n, rules[::-1]), totals_of(n, rules))
            self.assertEqual(totals_of(n, (rules + rules)[:16]), totals_of(n, rules))

    def test_totals_are_those_of_the_certificate(self):
        for n, rules in list(oracle.great_rings()) + list(oracle.wild_rings()) + list(oracle.rounding_rings()):
            certificate = find_certificate(n, rules)
            if certificate[0] == "never":
                self.assertIsNone(totals_of(n, rules))
            else:
                (low, reason), (high, other) = certificate[1:]
                self.assertEqual(totals_of(n, rules), (sum(low), None if high is None else sum(high)))


if __name__ == "__main__":
    unittest.main()
