"""The errors of the interface: their bases, and their fields as attributes."""

import unittest

from ringwindows import errors

RING_ERRORS = {
    "TooMany": "bound", "NotDivisible": "number", "NotAlike": "index", "OutOfRange": None, "BadRing": "value",
    "BadRules": "error", "Never": None, "Busy": None, "TooManyEdits": None, "BadUnits": "value", "TooFew": None,
    "Broken": "index", "BadFilling": "value", "BadRule": "value", "TooManyRules": None, "BadSize": "value",
    "NothingToUndo": None, "BadEdits": None, "BadEdit": "index", "Rejected": "index", "BadNote": "value",
    "BadText": "index",
}
LOOKUP_ERRORS = {"NoPlace": "value", "NoTotal": "value", "NoRule": "value", "NoVersion": "value"}
FIELDS = {**RING_ERRORS, **LOOKUP_ERRORS}


def made(name):
    """Returns an error of the class with this name."""
    return getattr(errors, name)() if FIELDS[name] is None else getattr(errors, name)(0)


class Errors(unittest.TestCase):
    def test_ring_error(self):
        self.assertTrue(issubclass(errors.RingError, ValueError))
        self.assertFalse(issubclass(errors.RingError, LookupError))

    def test_bases(self):
        for name in RING_ERRORS:
            self.assertIsInstance(made(name), errors.RingError, name)
            self.assertNotIsInstance(made(name), LookupError, name)
        for name in LOOKUP_ERRORS:
            self.assertIsInstance(made(name), LookupError, name)
            self.assertNotIsInstance(made(name), ValueError, name)

    def test_none_derives_from_another(self):
        for name in FIELDS:
            for other in FIELDS:
                if name != other:
                    self.assertNotIsInstance(made(name), getattr(errors, other), (name, other))

    def test_fields_are_the_very_values(self):
        values = (
            None, True, False, 0, 1, -5, 10 ** 40, "", "text\n", (), (None, "rules"), (3, "rule"), [1, [2]], {"a": []},
        )
        for name, field in FIELDS.items():
            if field is None:
                self.assertEqual(vars(made(name)), {})
                continue
            for value in values:
                error = getattr(errors, name)(value)
                self.assertIs(getattr(error, field), value, name)
                self.assertEqual(list(vars(error)), [field])
                self.assertIsInstance(str(error), str)

    def test_exactly_the_fields_are_taken(self):
        for name, field in FIELDS.items():
            if field is not None:
                with self.assertRaises(TypeError, msg=name):
                    getattr(errors, name)()
                with self.assertRaises(TypeError, msg=name):
                    getattr(errors, name)(1, 2)

    def test_raised_and_caught(self):
        for name, field in FIELDS.items():
            base = errors.RingError if name in RING_ERRORS else LookupError
            with self.assertRaises(base) as caught:
                raise made(name)
            self.assertIs(caught.exception.__class__, getattr(errors, name))


if __name__ == "__main__":
    unittest.main()
