"""Promise [3]: no call changes its arguments, and equal calls return equal results of plain kinds."""

import unittest
from copy import deepcopy

from ringwindows import fillings, reasons, rules, steps, texts
from tests import oracle
from tests.oracle import JUNK, TRIANGLE
from tests.tools import outcome, promptly


ERRORS = {
    "parse_ring": "BadText", "parse_filling": "BadText", "count_fillings": "TooMany", "find_way": "TooMany",
}


def walked(n, some, total):
    """The fillings of a walk, which is iterated at once."""
    return tuple(fillings.walk_fillings(n, some, total))


def any_values():
    """Yields functions with any values where they are accepted."""
    certificate = ("totals", ((1, 1, 0), ((0, 1, 2), ())), ((1, 1, 1), ((), (0, 1, 2))))
    way = ((1, 1, 0), (1, 0, 1), (0, 1, 1))
    values = JUNK + (
        TRIANGLE, list(TRIANGLE), (1, 1, 0), [1, 1, 0], ((0, 1), (2,)), ([0, 1], [2]), certificate, list(certificate),
        {"a": [1, (2, [3])]}, [[], [[]], ({},)], ("totals", [[1, 1, 0], [[0, 1, 2], []]], [[1, 1, 1], [[], [0]]]),
        way, list(way), (way[0], list(way[1]), way[2]), "3:", "3: 0+2:1..2", "3: 0+2:1..2 3+1:1..", "1 0 2", "1 0",
        "x" * 2000, "9" * 2000, " " * 2000, (10 ** 39,) * 3, [[[[["1 0 2"]]]]], ((),) * 1000,
    )
    for value in values:
        yield rules.is_rules, (3, value)
        yield rules.rules_error, (3, value)
        yield rules.fits, (3, TRIANGLE, value)
        yield reasons.bound_of, (3, TRIANGLE, value)
        yield reasons.certificate_holds, (3, TRIANGLE, value)
        yield steps.way_holds, (3, TRIANGLE, (1, 1, 0), (0, 1, 1), value)
        yield texts.parse_ring, (value,)
        yield texts.parse_filling, (3, value)


def calls():
    """Yields functions with arguments: any values, and ordinary ones."""
    yield from any_values()
    yield rules.window_places, (4, 3, 2)
    yield rules.window_sum, ((5, 1, 0, 2), 3, 2)
    yield rules.broken_rules, (3, TRIANGLE, (3, 0, 0))
    yield rules.turned_rules, (3, TRIANGLE, 1)
    yield rules.mirrored_rules, (3, TRIANGLE)
    yield walked, (3, TRIANGLE, 2)
    yield walked, (3, TRIANGLE, 4)
    for n, some in list(oracle.great_rings())[:60] + [(3, TRIANGLE), (1, ()), (12, ())]:
        yield reasons.totals_of, (n, some)
        yield reasons.find_certificate, (n, some)
        yield texts.ring_text, (n, some)
    for n, some, hidden in list(oracle.close_rings())[:60]:
        for total in (0, sum(hidden), sum(hidden) + 1, 10 ** 30 - 1):
            yield fillings.window_range, (n, some, total, n - 1, (n + 1) // 2)
            yield fillings.smallest_filling, (n, some, total)
            yield fillings.greatest_filling, (n, some, total)
            yield fillings.count_fillings, (n, some, total)
        yield fillings.next_filling, (n, some, hidden)
        yield texts.filling_text, (hidden,)
        for other in (hidden, fillings.smallest_filling(n, some, sum(hidden)), fillings.greatest_filling(n, some, 0)):
            if other is not None:
                yield steps.least_steps, (hidden, other)
                yield steps.find_way, (n, some, hidden, other)


def is_plain(value):
    """Whether a result consists of None, bools, ints, texts and tuples, which nobody can change later."""
    if type(value) is tuple:
        return all(is_plain(item) for item in value)
    return value is None or type(value) in (bool, int, str)


class Calls(unittest.TestCase):
    def test_arguments_do_not_change(self):
        for function, arguments in calls():
            before = repr(deepcopy(arguments))
            outcome(function, *arguments)
            self.assertEqual(repr(arguments), before, function.__name__)

    def test_equal_calls_return_equal_results(self):
        first = [repr(outcome(function, *arguments)) for function, arguments in calls()]
        again = [repr(outcome(function, *deepcopy(arguments))) for function, arguments in reversed(list(calls()))]
        self.assertEqual(first, again[::-1])

    def test_results_are_plain(self):
        raised = {"BadText": 0, "TooMany": 0}
        for function, arguments in calls():
            found = promptly(outcome, function, *arguments)
            if found[0] == "raises":
                # No other error is raised, and only by functions whose sections name it.
                raised[found[1]] += 1
                self.assertEqual(found[1], ERRORS[function.__name__])
            else:
                self.assertTrue(is_plain(found[1]), (function.__name__, arguments))
        self.assertGreater(min(raised.values()), 10)

    def test_questions_are_answered_by_bools(self):
        for function, arguments in calls():
            if function in (rules.is_rules, rules.fits, reasons.certificate_holds, steps.way_holds):
                self.assertIs(type(function(*arguments)), bool)

    def test_somewhat_beyond_the_limits(self):
        # Limits that no point guards with an error must not raise one.
        beyond = tuple((first, 2, 1, 2 * 10 ** 9) for first in range(13)) * 2
        self.assertEqual(reasons.totals_of(13, beyond), (7, 13 * 10 ** 9))
        self.assertIs(reasons.certificate_holds(13, beyond, reasons.find_certificate(13, beyond)), True)
        self.assertEqual(rules.broken_rules(1, (), (10 ** 50,)), ())
        self.assertEqual(rules.window_sum((10 ** 50, 1), 1, 2), 10 ** 50 + 1)
        self.assertEqual(steps.least_steps((10 ** 50, 0), (0, 10 ** 50)), 10 ** 50 // 2)
        self.assertEqual(texts.filling_text((10 ** 50,) * 13), " ".join(["1" + "0" * 50] * 13))
        self.assertEqual(texts.ring_text(13, beyond), "13:" + "".join(f" {at}+2:1..2000000000" for at in range(13)) * 2)


if __name__ == "__main__":
    unittest.main()
