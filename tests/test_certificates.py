"""Promise [8], and [2] (a) and (h): certificates are found, are right, and only right ones are accepted."""

import unittest

from ringwindows.reasons import bound_of, certificate_holds, find_certificate, totals_of
from tests import oracle
from tests.oracle import JUNK, LIMIT, TRIANGLE
from tests.tools import changed, promptly, same, with_bools

GOOD = ("totals", ((1, 1, 0), ((0, 1, 2), ())), ((1, 1, 1), ((), (0, 1, 2))))
EXACT = ((0, 2, 1, 1), (1, 2, 1, 1), (2, 2, 1, 1))


class Found(unittest.TestCase):
    def check(self, rings):
        """Checks the certificates of all rings, and returns how many there are of each kind."""
        kinds = {"endless": 0, "totals": 0, "never 1": 0, "never 2": 0}
        for n, rules in rings:
            with self.subTest(n=n, rules=rules):
                certificate = promptly(find_certificate, n, rules)
                self.assertTrue(oracle.certificate_is_right(n, rules, certificate), certificate)
                self.assertIs(promptly(certificate_holds, n, rules, certificate), True)
                promptly(totals_of, n, rules)
            if certificate[0] == "never":
                kinds["never 1" if len(certificate) == 2 else "never 2"] += 1
            else:
                kinds["endless" if certificate[2][0] is None else "totals"] += 1
        return kinds

    def test_example(self):
        self.assertIs(certificate_holds(3, TRIANGLE, find_certificate(3, TRIANGLE)), True)

    def test_small_rings(self):
        self.assertGreater(min(self.check(oracle.small_rings()).values()), 20)

    def test_great_rings(self):
        self.assertGreater(min(self.check(oracle.great_rings()).values()), 20)

    def test_wild_rings(self):
        kinds = self.check(oracle.wild_rings())
        self.assertGreater(kinds["never 1"] + kinds["never 2"], 20)

    def test_nothing_fits_after_rounding(self):
        rings = list(oracle.rounding_rings())
        self.assertGreater(len(rings), 20)
        # Fractions would fit, so no reason is enough alone.
        self.assertEqual(self.check(rings)["never 2"], len(rings))

    def test_edges(self):
        self.check((
            (1, ()), (12, ()),
            (1, ((0, 1, 0, 0),)), (1, ((0, 1, LIMIT, LIMIT),)), (1, ((0, 1, LIMIT, 0),) * 16),
            (1, ((0, 1, LIMIT, None), (0, 1, 0, LIMIT - 1))),
            (12, ((7, 12, 3, 9),)), (12, ((7, 12, LIMIT, None), (2, 12, 0, LIMIT - 1))),
            (12, tuple((place, 1, LIMIT, LIMIT) for place in range(12)) + ((0, 12, 0, LIMIT),)),
            (12, tuple((place, 1, LIMIT, LIMIT) for place in range(12)) + ((0, 12, LIMIT, None),) * 4),
            (12, tuple((place, 2, 0, LIMIT) for place in range(12))),
            (12, tuple((place, 5, LIMIT, None) for place in range(12)) + ((0, 6, 0, LIMIT), (6, 6, 0, LIMIT))),
            (12, tuple((place, 11, LIMIT - place, LIMIT) for place in range(12))),
        ))

    def test_low_of_zero_has_no_reason(self):
        for n, rules in ((1, ()), (12, ()), (3, ((0, 2, 0, 1),)), (3, ((0, 3, 0, 5),)), (1, ((0, 1, 0, 0),))):
            self.assertEqual(find_certificate(n, rules)[1], ((0,) * n, None))


class Accepted(unittest.TestCase):
    def test_example(self):
        self.assertEqual(
            [certificate_holds(3, TRIANGLE, GOOD), certificate_holds(2, ((0, 1, 3, 2),), ("never", ((0,), (0,))))],
            [True, True])

    def test_certificates_of_every_kind(self):
        for n, rules, value in (
            (3, TRIANGLE, ("totals", ((0, 1, 1), ((0, 0, 1, 1, 2, 2), ())), ((1, 1, 1), ((), (0, 0, 1, 1, 2, 2))))),
            (1, (), ("totals", ((0,), None), (None, 0))),
            (12, (), ("totals", ((0,) * 12, None), (None, 11))),
            (3, ((0, 2, 1, None), (0, 2, 0, 4)), ("totals", ((0, 1, 0), ((0,), ())), (None, 2))),
            (1, ((0, 1, 0, 0),), ("totals", ((0,), None), ((0,), ((), (0,))))),
            (2, ((0, 1, 3, 2),), ("never", ((0, 0), (0, 0)))),
            (3, EXACT, ("never", ((0, 1, 2), ()), ((), (0, 1, 2)))),
            (2, ((0, 2, 3, 2),), ("never", ((0,), ()), ((), (0,)))),
        ):
            with self.subTest(n=n, rules=rules, value=value):
                self.assertIs(certificate_holds(n, rules, value), True)
                self.assertTrue(oracle.certificate_is_right(n, rules, value))

    def refused(self, n, rules, value):
        with self.subTest(n=n, rules=rules, value=value):
            self.assertIs(certificate_holds(n, rules, value), False)

    def test_wrong_shapes(self):
        for value in JUNK + (
            "totals", ("totals",), ("never",), GOOD[:2], GOOD + (None,), GOOD + GOOD[1:], (GOOD,), list(GOOD),
            ("total",) + GOOD[1:], ("never",) + GOOD[1:], (None,) + GOOD[1:], (["totals"],) + GOOD[1:], GOOD[1:],
            (GOOD[0], GOOD[2], GOOD[1]), (GOOD[0], list(GOOD[1]), GOOD[2]), (GOOD[0], GOOD[1], list(GOOD[2])),
        ):
            self.refused(3, TRIANGLE, value)

    def test_low_part(self):
        for part in (
            ((1, 1, 0), None), ((1, 1, 0), ((0, 1), ())), ((1, 1, 0), ((), ())), ((1, 1, 0), ((2, 1, 0), ())),
            ((1, 1, 0), ((), (0, 1, 2))), ((1, 1, 1), ((0, 1, 2), ())), ((2, 0, 0), ((0, 1, 2), ())),
            ((1, True, 0), ((0, 1, 2), ())), ((1, 1, False), ((0, 1, 2), ())), ([1, 1, 0], ((0, 1, 2), ())),
            ((1, 1), ((0, 1, 2), ())), ((1, 1, 0, 0), ((0, 1, 2), ())), (None, ((0, 1, 2), ())), (None, 0),
            ((1, 1, 0),), ((1, 1, 0), ((0, 1, 2), ()), None), ((0, 1, 2), ()), ((1, 1, 0), ((False, 1, 2), ())),
        ):
            self.refused(3, TRIANGLE, (GOOD[0], part, GOOD[2]))

    def test_high_part(self):
        for part in (
            ((1, 1, 1), None), ((1, 1, 1), ((), (0, 1))), ((1, 1, 1), ((), ())), ((1, 1, 1), ((0, 1, 2), ())),
            ((1, 1, 0), ((), (0, 1, 2))), ((0, 1, 2), ((), (0, 1, 2))), ((1, 1, True), ((), (0, 1, 2))),
            ([1, 1, 1], ((), (0, 1, 2))), ((1, 1, 1), ((), [0, 1, 2])), ((1, 1, 1), 0), (None, 0), (None, 2),
            (None, None), (None, ((), (0, 1, 2))), ((1, 1, 1),), ((1, 1, 1), ((), (0, 1, 2)), 0),
        ):
            self.refused(3, TRIANGLE, (GOOD[0], GOOD[1], part))

    def test_low_of_zero_takes_nothing_but_none(self):
        rules = ((0, 1, 0, 0),)
        high = ((0,), ((), (0,)))
        self.assertIs(certificate_holds(1, rules, ("totals", ((0,), None), high)), True)
        self.assertEqual(bound_of(1, rules, ((0,), ())), ("least", 0))
        for reason in (((0,), ()), ((), ()), 0, False, (), "", [], ((0,), (0,)), ((), (0,))):
            self.refused(1, rules, ("totals", ((0,), reason), high))

    def test_place_without_a_most(self):
        rules = ((2, 2, 0, 5), (1, 1, 0, None))
        for place in JUNK + (0, 1, 2, 3, 4, 10 ** 39):
            with self.subTest(place=place):
                value = ("totals", ((0, 0, 0, 0), None), (None, place))
                self.assertIs(certificate_holds(4, rules, value), same(place, 0) or same(place, 1))
        window = ((3, 2, 0, 5),)
        for place, expected in ((0, False), (1, True), (True, False), (2, True), (3, False), (4, False), (-2, False)):
            value = ("totals", ((0, 0, 0, 0), None), (None, place))
            self.assertIs(certificate_holds(4, window, value), expected)

    def test_never(self):
        least, most = ((0, 1, 2), ()), ((), (0, 1, 2))
        self.assertIs(certificate_holds(3, EXACT, ("never", least, most)), True)
        for value in (
            ("never", most, least), ("never", least), ("never", most), ("never", least, least), ("never", most, most),
            ("never", least, most, most), ("never", least, None), ("never", None, most), ("never", (least, most)),
            ("never", ((0, 1), ()), most), ("never", ((0, 1), (0,)), ((), (0, 1))), ("never", ((), ()), most),
        ):
            self.refused(3, EXACT, value)
        # Bounds that touch do not contradict each other.
        self.refused(1, ((0, 1, 2, 2),), ("never", ((0,), ()), ((), (0,))))
        self.refused(1, ((0, 1, 2, 2),), ("never", ((0,), (0,))))
        # A reason whose bound is ("never",) is neither a least nor a most.
        never = ((0,), (0,))
        rules = ((0, 1, 3, 2), (0, 2, 1, 5))
        self.assertIs(certificate_holds(2, rules, ("never", never)), True)
        self.refused(2, rules, ("never", never, never))
        self.refused(2, rules, ("never", never, ((), (1,))))
        self.refused(2, rules, ("never", ((1,), ()), never))

    def test_rules_of_another_ring(self):
        self.refused(3, EXACT, GOOD)
        self.refused(3, TRIANGLE[:2], GOOD)
        self.refused(4, TRIANGLE, GOOD)

    def test_one_part_replaced_removed_or_repeated(self):
        rings = [
            (3, TRIANGLE), (3, EXACT), (2, ((0, 1, 3, 2),)), (3, ((0, 2, 1, None),)), (1, ()), (1, ((0, 1, 0, 0),)),
            (1, ((0, 1, 2, 5),)), (4, ((0, 1, 2, 2), (0, 4, 5, 7))), (5, tuple((k, 2, 3, 3) for k in range(5))),
        ]
        rings += list(oracle.great_rings())[:30]
        refused = 0
        for n, rules in rings:
            certificate = find_certificate(n, rules)
            for value in changed(certificate):
                # A change can lead to another certificate, for instance with another filling of the same total.
                expected = oracle.certificate_is_right(n, rules, value)
                found = certificate_holds(n, rules, value)
                if found is not expected:
                    self.fail(f"{n}, {rules}, {value}: {found}")
                refused += not found
        self.assertGreater(refused, 10000)

    def test_bools_right_after_numbers(self):
        for n, rules in ((3, TRIANGLE), (3, EXACT), (2, ((0, 1, 3, 2),)), (1, ((0, 1, 0, 0),)), (2, ((0, 1, 1, 1),))):
            certificate = find_certificate(n, rules)
            values = list(with_bools(certificate))
            self.assertGreater(len(values), 1)
            for value in values:
                self.assertIs(certificate_holds(n, rules, certificate), True)
                self.refused(n, rules, value)

    def test_parts_that_cannot_be_missed(self):
        for at in range(3):
            self.refused(3, TRIANGLE, GOOD[:at] + GOOD[at + 1:])
            self.refused(3, TRIANGLE, GOOD[:at + 1] + GOOD[at:])
        for side in (((0, 1), ()), ((0, 2), ()), ((1, 2), ()), ((0, 0, 1), ()), ((0, 1, 2), (0,))):
            self.refused(3, TRIANGLE, ("totals", ((1, 1, 0), side), GOOD[2]))


if __name__ == "__main__":
    unittest.main()
