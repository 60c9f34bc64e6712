"""Promise [3]: no call changes its arguments, and equal calls return equal results of plain kinds."""

import unittest
from copy import deepcopy

from ringwindows import fillings, parts, reasons, rules, steps, texts
from ringwindows.desks import Desk, LogDesk
from ringwindows.shells import Shell
from tests import oracle
from tests.oracle import JUNK, TRIANGLE
from tests.tools import outcome, promptly


ERRORS = {
    "parse_ring": "BadText", "parse_filling": "BadText", "count_fillings": "TooMany", "find_way": "TooMany",
    "parts_of": "NotDivisible", "joined": "NotAlike", "scaled_rules": "OutOfRange",
    "new_desk": "BadRing BadRules Never", "read_desk": "BadText Never",
    "desk_move": "NoPlace BadUnits TooFew Broken", "desk_fill": "NoTotal",
    "desk_put": "BadFilling Broken", "desk_add": "BadRule TooManyRules Broken", "desk_drop": "NoRule",
    "desk_attempt": "BadEdits BadEdit Rejected", "desk_state": "NoVersion", "desk_range": "NoVersion NoPlace BadSize",
    "desk_note": "BadNote",
}


def walked(n, some, total):
    """The fillings of a walk, which is iterated at once."""
    return tuple(fillings.walk_fillings(n, some, total))


def told(desk):
    """All that a desk tells of itself."""
    attributes = (desk.rules, desk.filling, desk.total, desk.totals, desk.lines)
    return (attributes, desk.edits(), desk.state(), len(desk), str(desk))


def new_desk(n, some):
    return told(LogDesk(n, some))


def read_desk(value):
    return told(LogDesk.read(value))


def on_desk(name):
    """Returns a function that calls the method of this name on a new desk, and tells all of the desk."""
    def call(*values):
        desk = LogDesk(3, TRIANGLE)
        return (getattr(desk, name)(*values), told(desk))

    call.__name__ = f"desk_{name}"
    return call


desk_move, desk_note = on_desk("move"), on_desk("note")
EDITS = [on_desk(name) for name in ("fill", "put", "add", "drop")]


def desk_attempt(value):
    desk = LogDesk(3, TRIANGLE)
    return (desk.attempt(value, watch=told), told(desk))


def desk_state(value):
    return LogDesk(3, TRIANGLE).state(version=value)


def desk_range(first, size, value):
    return LogDesk(3, TRIANGLE).range_of(first, size, version=value)


def desk_equal(value):
    return LogDesk(3, TRIANGLE) == value


def executed(value):
    return Shell(Desk(3, TRIANGLE)).execute(value)


def desk_values(value):
    """Yields functions of desks with the value where any values are accepted."""
    for function in EDITS + [read_desk, desk_attempt, desk_state, desk_note, desk_equal, executed]:
        yield function, (value,)
    yield new_desk, (3, value)
    yield new_desk, (value, TRIANGLE)
    yield desk_move, (value, 1)
    yield desk_move, (1, value)
    yield desk_attempt, ([("fill", 3), ("put", value)],)
    yield desk_attempt, ([value, ("move", value, 0)],)
    yield desk_range, (value, 1, None)
    yield desk_range, (0, value, None)
    yield desk_range, (0, 1, value)


def any_values():
    """Yields functions with any values where they are accepted."""
    certificate = ("totals", ((1, 1, 0), ((0, 1, 2), ())), ((1, 1, 1), ((), (0, 1, 2))))
    way = ((1, 1, 0), (1, 0, 1), (0, 1, 1))
    values = JUNK + (
        TRIANGLE, list(TRIANGLE), (1, 1, 0), [1, 1, 0], ((0, 1), (2,)), ([0, 1], [2]), certificate, list(certificate),
        {"a": [1, (2, [3])]}, [[], [[]], ({},)], ("totals", [[1, 1, 0], [[0, 1, 2], []]], [[1, 1, 1], [[], [0]]]),
        way, list(way), (way[0], list(way[1]), way[2]), "3:", "3: 0+2:1..2", "3: 0+2:1..2 3+1:1..", "1 0 2", "1 0",
        "x" * 2000, "9" * 2000, " " * 2000, (10 ** 39,) * 3, [[[[["1 0 2"]]]]], ((),) * 1000,
        0, 1, 2, 3, (0, 2, 1, 2), [0, 2, 1, 2], [("fill", 3), ("drop", 0)], (("move", 1, -1),), "fill 3", "undo",
        [("fill", [3])], [["fill", 3]], [("add", (0, 1, 0, [5])), ("fill", {"a": 3})], ("fill", 3),
    )
    for value in values:
        yield rules.is_rules, (3, value)
        yield rules.rules_error, (3, value)
        yield rules.fits, (3, TRIANGLE, value)
        yield reasons.bound_of, (3, TRIANGLE, value)
        yield reasons.certificate_holds, (3, TRIANGLE, value)
        yield steps.way_holds, (3, TRIANGLE, (1, 1, 0), (0, 1, 1), value)
        yield texts.parse_ring, (value,)
        yield texts.parse_filling, (3, value)
        yield from desk_values(value)


def calls():
    """Yields functions with arguments: any values, and ordinary ones."""
    yield from any_values()
    yield rules.window_places, (4, 3, 2)
    yield rules.window_sum, ((5, 1, 0, 2), 3, 2)
    yield rules.broken_rules, (3, TRIANGLE, (3, 0, 0))
    yield rules.turned_rules, (3, TRIANGLE, 1)
    yield rules.mirrored_rules, (3, TRIANGLE)
    yield parts.joined, ((1, 1, 0), (2, 0, 0), (0, 0, 10 ** 29))
    yield parts.joined, ((1, 1, 0), (2, 0, 0), (0, 0))
    yield walked, (3, TRIANGLE, 2)
    yield walked, (3, TRIANGLE, 4)
    for n, some in list(oracle.great_rings())[:60] + [(3, TRIANGLE), (1, ()), (12, ())]:
        yield reasons.totals_of, (n, some)
        yield reasons.find_certificate, (n, some)
        yield texts.ring_text, (n, some)
    for n, some, hidden in list(oracle.close_rings())[:60]:
        for total in (0, sum(hidden), sum(hidden) + 1, 10 ** 30 - 1):
            yield fillings.window_range, (n, some, total, n - 1, (n + 1) // 2)
            yield fillings.smallest_filling, (n, some, total)
            yield fillings.greatest_filling, (n, some, total)
            yield fillings.count_fillings, (n, some, total)
        yield fillings.next_filling, (n, some, hidden)
        yield texts.filling_text, (hidden,)
        for many in (1, 2, 3, 100):
            yield parts.parts_of, (hidden, many)
            yield parts.scaled_rules, (some, many)
        for other in (hidden, fillings.smallest_filling(n, some, sum(hidden)), fillings.greatest_filling(n, some, 0)):
            if other is not None:
                yield steps.least_steps, (hidden, other)
                yield steps.find_way, (n, some, hidden, other)


def is_plain(value):
    """Whether a result consists of None, bools, ints, texts and tuples, which nobody can change later."""
    if type(value) is tuple:
        return all(is_plain(item) for item in value)
    return value is None or type(value) in (bool, int, str)


class Calls(unittest.TestCase):
    def test_arguments_do_not_change(self):
        for function, arguments in calls():
            before = repr(deepcopy(arguments))
            outcome(function, *arguments)
            self.assertEqual(repr(arguments), before, function.__name__)

    def test_equal_calls_return_equal_results(self):
        first = [repr(outcome(function, *arguments)) for function, arguments in calls()]
        again = [repr(outcome(function, *deepcopy(arguments))) for function, arguments in reversed(list(calls()))]
        self.assertEqual(first, again[::-1])

    def test_results_are_plain(self):
        raised = {}
        for function, arguments in calls():
            found = promptly(outcome, function, *arguments)
            if found[0] == "raises":
                # No other error is raised, and only by functions whose sections name it.
                raised[function.__name__] = raised.get(function.__name__, 0) + 1
                self.assertIn(found[1], ERRORS[function.__name__].split())
            else:
                self.assertTrue(is_plain(found[1]), (function.__name__, arguments))
        self.assertEqual(sorted(raised), sorted(ERRORS))

    def test_questions_are_answered_by_bools(self):
        for function, arguments in calls():
            if function in (rules.is_rules, rules.fits, reasons.certificate_holds, steps.way_holds, desk_equal):
                self.assertIs(type(function(*arguments)), bool)

    def test_somewhat_beyond_the_limits(self):
        # Limits that no point guards with an error must not raise one.
        beyond = tuple((first, 2, 1, 2 * 10 ** 9) for first in range(13)) * 2
        self.assertEqual(reasons.totals_of(13, beyond), (7, 13 * 10 ** 9))
        self.assertIs(reasons.certificate_holds(13, beyond, reasons.find_certificate(13, beyond)), True)
        self.assertEqual(rules.broken_rules(1, (), (10 ** 50,)), ())
        self.assertEqual(rules.window_sum((10 ** 50, 1), 1, 2), 10 ** 50 + 1)
        self.assertEqual(steps.least_steps((10 ** 50, 0), (0, 10 ** 50)), 10 ** 50 // 2)
        self.assertEqual(parts.parts_of((10 ** 50,) * 13, 200), ((10 ** 50 // 200,) * 13,) * 200)
        self.assertEqual(texts.filling_text((10 ** 50,) * 13), " ".join(["1" + "0" * 50] * 13))
        self.assertEqual(texts.ring_text(13, beyond), "13:" + "".join(f" {at}+2:1..2000000000" for at in range(13)) * 2)


if __name__ == "__main__":
    unittest.main()
