"""limits.py: each value."""

import unittest

from surecues import limits

EXPECTED = {
    "PIECES": 12,
    "TRACKS": 6,
    "MARKERS": 12,
    "HEADS": 4,
    "COMMANDS": 40,
    "EVENTS": 100,
    "DIGITS": 9,
    "MOMENTS": 8,
    "FACTS": 40,
    "SHOWS": 6,
    "GREAT": 1000,
}


class Limits(unittest.TestCase):
    def test_each_value(self):
        found = {name: worth for name, worth in vars(limits).items() if name.isupper()}
        self.assertEqual(found, EXPECTED)

    def test_all_are_integers(self):
        for name in EXPECTED:
            self.assertIs(type(getattr(limits, name)), int, name)


if __name__ == "__main__":
    unittest.main()
