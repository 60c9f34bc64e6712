"""The values that the document gives for the names of ringwindows.bounds."""

import unittest

from ringwindows import bounds


class Bounds(unittest.TestCase):
    def test_values(self):
        expected = {
            "LIMIT": 1000000000, "MAX_PLACES": 12, "MAX_RULES": 16, "MAX_REASON": 24,
            "MAX_COUNT": 10000000000000000000000000, "LISTED": 500, "MAX_EDITS": 60, "BATCH": 20, "LOGGED": 8,
        }
        for name, value in expected.items():
            with self.subTest(name=name):
                self.assertEqual(getattr(bounds, name), value)
                self.assertIs(type(getattr(bounds, name)), int)


if __name__ == "__main__":
    unittest.main()
