"""arrowtrios.limits: each constant with its value."""

import unittest

from arrowtrios import limits

VALUES = {
    "GREATEST": int("1" + "0" * 300),
    "MOST_TIMES": int("1" + "0" * 310),
    "MOST_PAIRS": 200,
    "MOST_LETTERS": 12,
    "MOST_REMAINDER": 12,
    "MOST_LISTED": 2000,
    "MOST_BOUND": 1000000,
    "MOST_PLACES": 5,
    "MOST_WEB": int("1" + "0" * 30),
    "MOST_WEBS": 300,
    "MOST_TABLE": 10000,
}


class LimitsTest(unittest.TestCase):
    def test_each_constant_has_its_value(self):
        for name, value in VALUES.items():
            with self.subTest(name=name):
                self.assertEqual(getattr(limits, name), value)
                self.assertIs(type(getattr(limits, name)), int)

    def test_the_powers_are_those_of_the_document(self):
        self.assertEqual(limits.GREATEST, 10 ** 300)
        self.assertEqual(limits.MOST_TIMES, 10 ** 310)


if __name__ == "__main__":
    unittest.main()
