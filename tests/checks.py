"""What the tests of desks share: values of all kinds, and calls that are refused."""

import unittest

from ringwindows import errors
from tests.oracle import JUNK
from tests.tools import outcome, promptly, same, view

FREE = (0, 1, 0, None)
LOOKUPS = ("NoPlace", "NoTotal", "NoRule", "NoVersion")
NOTHING = ((0,), [1], "1", "x" * 2000, {"a": [1, (2,)]}, (1, 2, 3, 4, 5), ((0, 1, 0, 5), 0), 10 ** 40 - 1, 1 - 10 ** 40)
KINDS = JUNK + NOTHING


def no_numbers(low, high):
    """Values of all kinds, and numbers beside the range, none of which is a number of the range."""
    return KINDS + (low - 1, high + 1)


class Checks(unittest.TestCase):
    """What the tests of desks share."""

    def refused(self, desk, expected, function, *arguments, **named):
        """Checks that the call raises the error (name, fields), of no other class, and changes nothing."""
        before = view(desk)
        found = outcome(promptly, lambda: function(*arguments, **named))
        self.assertTrue(same(found, ("raises",) + expected), (found, expected, arguments))
        self.assertTrue(same(view(desk), before), (arguments, named))
        raised = getattr(errors, expected[0])
        self.assertIs(issubclass(raised, LookupError), expected[0] in LOOKUPS)
        for field, value in expected[1].items():
            if type(value) in (list, dict):
                # It is the very value that was passed.
                self.assertIs(found[2][field], value)

    def first_bool_refused(self, desk, name, expected, numbers):
        """Checks that True and False are refused right after 1 and 0 were accepted."""
        for number in numbers:
            self.assertEqual(getattr(desk, name)(number), len(desk))
            self.refused(desk, (expected, {"value": bool(number)}), getattr(desk, name), bool(number))
