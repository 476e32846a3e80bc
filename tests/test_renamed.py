"""`renamed`: all namings, and what is none [11]."""

import itertools
import unittest
from unittest.mock import ANY

from arrowtrios.errors import InvalidNaming, NotAStanding
from arrowtrios.standings import Standing, renamed
from tests.plain import GREATEST

NAMINGS = ["".join(letters) for letters in itertools.permutations("abc")]

NO_NAMINGS = (
    "", "a", "ab", "aab", "aaa", "abb", "abcd", "abca", "abd", "ABC", "Abc", "a b c", " abc", "abc ", "abc\n", "012",
    "a" * 2000, None, True, False, 0, 1, b"abc", (), ("a", "b", "c"), ("abc",), [], ["a", "b", "c"], ["abc"], {},
    {"abc": 1}, set("abc"), object(), Standing(3, 4, 5), str,
    ANY,
)


def by_pairs(numbers, naming):
    """The numbers renamed, looked up by pairs of places as [11] tells it."""
    x, y, z = numbers
    arrows = {"ab": x, "ba": -x, "bc": y, "cb": -y, "ca": z, "ac": -z}
    first, second, third = naming
    return (arrows[first + second], arrows[second + third], arrows[third + first])


class RenamedTest(unittest.TestCase):
    def test_the_numbers_of_all_namings(self):
        cases = {
            "abc": (3, 4, 5), "acb": (-5, -4, -3), "bac": (-3, -5, -4), "bca": (4, 5, 3), "cab": (5, 3, 4),
            "cba": (-4, -3, -5),
        }
        self.assertEqual(sorted(cases), sorted(NAMINGS))
        for naming, numbers in cases.items():
            with self.subTest(naming=naming):
                self.assertEqual(renamed(Standing(3, 4, 5), naming).numbers, numbers)

    def test_many_standings_in_all_namings(self):
        for numbers in itertools.product([-GREATEST, -2, 0, 1, 3, GREATEST], repeat=3):
            for naming in NAMINGS:
                behind = renamed(Standing(*numbers), naming)
                self.assertIsInstance(behind, Standing)
                self.assertEqual(behind.numbers, by_pairs(numbers, naming))
                self.assertEqual(behind.mark, Standing(*numbers).mark)

    def test_one_after_the_other(self):
        standing = Standing(3, -4, 5)
        for first, second in itertools.product(NAMINGS, repeat=2):
            both = "".join(first["abc".index(letter)] for letter in second)
            self.assertTrue(renamed(renamed(standing, first), second) == renamed(standing, both))

    def test_given_by_name_and_not_changed(self):
        standing = Standing(3, 4, 5)
        self.assertEqual(renamed(naming="bca", standing=standing).numbers, (4, 5, 3))
        self.assertEqual(renamed(standing, naming="bca").numbers, (4, 5, 3))
        self.assertEqual(standing.numbers, (3, 4, 5))

    def test_what_is_no_naming(self):
        for value in NO_NAMINGS:
            with self.subTest(value=value):
                with self.assertRaises(InvalidNaming) as caught:
                    renamed(Standing(3, 4, 5), value)
                self.assertIs(caught.exception.given, value)

    def test_a_standing_that_is_none_is_told_first(self):
        for standing in (None, (3, 4, 5), [3, 4, 5], "abc", 3, object()):
            for naming in ("abc", "aab", None):
                with self.assertRaises(NotAStanding) as caught:
                    renamed(standing, naming)
                self.assertIs(caught.exception.given, standing)


if __name__ == "__main__":
    unittest.main()
