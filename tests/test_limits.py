import unittest

from choicerows import limits

NUMBERS = {
    "GREAT": 1000, "WORDS": 10, "LETTERS": 8, "ITEMS": 4, "LONG": 6, "DIVISOR": 100, "VALUES": 2000,
    "EXACT": 5000, "DIGITS": 6, "COMMANDS": 4, "STATES": 2000, "NAMES": 10, "ROWS": 20,
}


class Limits(unittest.TestCase):
    def test_every_number(self):
        for name, number in NUMBERS.items():
            self.assertEqual(getattr(limits, name), number, name)

    def test_they_are_integers(self):
        for name in NUMBERS:
            self.assertIs(type(getattr(limits, name)), int, name)


if __name__ == "__main__":
    unittest.main()
