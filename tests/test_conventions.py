"""Promise [3]: no call changes its arguments, and equal calls return equal results of plain kinds."""

import unittest
from copy import deepcopy

from ringwindows import reasons, rules
from tests import oracle
from tests.oracle import JUNK, TRIANGLE


def calls():
    """Yields functions with arguments: ordinary ones, and any values where they are accepted."""
    certificate = ("totals", ((1, 1, 0), ((0, 1, 2), ())), ((1, 1, 1), ((), (0, 1, 2))))
    values = JUNK + (
        TRIANGLE, list(TRIANGLE), (1, 1, 0), [1, 1, 0], ((0, 1), (2,)), ([0, 1], [2]), certificate, list(certificate),
        {"a": [1, (2, [3])]}, [[], [[]], ({},)], ("totals", [[1, 1, 0], [[0, 1, 2], []]], [[1, 1, 1], [[], [0]]]),
    )
    for value in values:
        yield rules.is_rules, (3, value)
        yield rules.rules_error, (3, value)
        yield rules.fits, (3, TRIANGLE, value)
        yield reasons.bound_of, (3, TRIANGLE, value)
        yield reasons.certificate_holds, (3, TRIANGLE, value)
    yield rules.window_places, (4, 3, 2)
    yield rules.window_sum, ((5, 1, 0, 2), 3, 2)
    yield rules.broken_rules, (3, TRIANGLE, (3, 0, 0))
    yield rules.turned_rules, (3, TRIANGLE, 1)
    yield rules.mirrored_rules, (3, TRIANGLE)
    for n, some in list(oracle.great_rings())[:60] + [(3, TRIANGLE), (1, ()), (12, ())]:
        yield reasons.totals_of, (n, some)
        yield reasons.find_certificate, (n, some)


def is_plain(value):
    """Whether a result consists of None, bools, ints, texts and tuples, which nobody can change later."""
    if type(value) is tuple:
        return all(is_plain(item) for item in value)
    return value is None or type(value) in (bool, int, str)


class Calls(unittest.TestCase):
    def test_arguments_do_not_change(self):
        for function, arguments in calls():
            before = repr(deepcopy(arguments))
            function(*arguments)
            self.assertEqual(repr(arguments), before, function.__name__)

    def test_equal_calls_return_equal_results(self):
        first = [repr(function(*arguments)) for function, arguments in calls()]
        again = [repr(function(*deepcopy(arguments))) for function, arguments in reversed(list(calls()))]
        self.assertEqual(first, again[::-1])

    def test_results_are_plain(self):
        for function, arguments in calls():
            self.assertTrue(is_plain(function(*arguments)), (function.__name__, arguments))

    def test_questions_are_answered_by_bools(self):
        for function, arguments in calls():
            if function in (rules.is_rules, rules.fits, reasons.certificate_holds):
                self.assertIs(type(function(*arguments)), bool)

    def test_somewhat_beyond_the_limits(self):
        # Limits that no point guards with an error must not raise one.
        beyond = tuple((first, 2, 1, 2 * 10 ** 9) for first in range(13)) * 2
        self.assertEqual(reasons.totals_of(13, beyond), (7, 13 * 10 ** 9))
        self.assertIs(reasons.certificate_holds(13, beyond, reasons.find_certificate(13, beyond)), True)
        self.assertEqual(rules.broken_rules(1, (), (10 ** 50,)), ())
        self.assertEqual(rules.window_sum((10 ** 50, 1), 1, 2), 10 ** 50 + 1)


if __name__ == "__main__":
    unittest.main()
