"""The interface: tidyback/limits.py."""

import unittest

from tidyback import limits

NUMBERS = {
    "MODULUS": 1000, "INPUTS": 6, "STEPS": 8, "REGISTERS": 8, "MOVES": 255,
    "LEVELS": 256, "PRICE": 1000, "INSTRUCTIONS": 255, "ALL_INPUTS": 4096, "ENTRIES": 100,
}


class LimitsTest(unittest.TestCase):
    def test_each_number(self):
        found = {name: worth for name, worth in vars(limits).items() if name.isupper()}
        self.assertEqual(found, NUMBERS)

    def test_each_is_an_integer(self):
        for name in NUMBERS:
            self.assertIs(type(getattr(limits, name)), int)


if __name__ == "__main__":
    unittest.main()
