"""TooGreat: the first pair of a row behind which some size is above 10 ** 300."""

import unittest

from arrowtrios.errors import TooGreat
from arrowtrios.standings import Standing, turned
from tests.plain import GREATEST, MOST_TIMES, loop, outcome, round_of, turn

ROOT = 10 ** 150

# Standings of a foot between which turns lead past a size of twice the greatest.
AT_THE_FOOT = [
    numbers
    for p in (1, -1)
    for q in (GREATEST, -GREATEST)
    for r in (GREATEST, -GREATEST, GREATEST - 1)
    for numbers in [(p, q, r), (q, p, r), (q, r, p)]
]

PATHS = ("ab", "abc", "abcb", "bacab", "cba", "acbabc", "bcab", "bab", "cacb")


def greatest_along(numbers, word):
    """The greatest size behind any of the turns of a word."""
    greatest = 0
    for letter in word:
        numbers = turn(numbers, letter)
        greatest = max(greatest, *[abs(number) for number in numbers])
    return greatest


class TooGreatTest(unittest.TestCase):
    def too_great(self, index, standing, row):
        with self.assertRaises(TooGreat) as caught:
            turned(standing, row)
        self.assertEqual(caught.exception.index, index)
        self.assertIs(type(caught.exception.index), int)

    def test_a_size_of_just_the_greatest_is_let(self):
        self.assertEqual(outcome((ROOT, ROOT, 0), (("b", 1),)), (-ROOT, -ROOT, -GREATEST))
        self.assertEqual(outcome((ROOT, ROOT, 1), (("b", 1),)), (-ROOT, -ROOT, 1 - GREATEST))
        self.assertEqual(outcome((-ROOT, 0, -ROOT), (("a", 1),)), (ROOT, GREATEST, ROOT))
        self.assertEqual(outcome((2, GREATEST - 2, GREATEST - 1), (("a", 1),)), (-2, -GREATEST, 1 - GREATEST))
        half = (GREATEST - 4) // 2
        self.assertEqual(outcome((2, 3, 4), (("ab", half),)), (2, GREATEST - 1, GREATEST))

    def test_one_more_is_too_great(self):
        self.assertEqual(outcome((ROOT, ROOT, -1), (("b", 1),)), "too great at 0")
        self.assertEqual(outcome((2, GREATEST - 1, GREATEST), (("a", 1),)), "too great at 0")
        half = (GREATEST - 4) // 2
        self.assertEqual(outcome((2, 3, 4), (("ab", half), ("a", 1))), "too great at 1")
        self.assertEqual(outcome((2, 3, 4), (("ab", half + 1),)), "too great at 0")

    def test_the_index_of_the_first_pair(self):
        ring = Standing(3, 4, 5)
        self.too_great(0, ring, (("abc", MOST_TIMES),))
        self.too_great(0, ring, (("abc", 100), ("cba", 100)))
        self.too_great(1, ring, (("b", 1), ("abc", MOST_TIMES), ("abc", MOST_TIMES)))
        self.too_great(2, ring, (("b", 1), ("b", 1), ("cab", 10 ** 6), ("bac", 10 ** 6), ("a", 1)))
        self.too_great(199, ring, (("abba", MOST_TIMES),) * 199 + (("ab", MOST_TIMES),))
        self.too_great(0, Standing(GREATEST, GREATEST, 1), (("b", 1), ("b", 1)))

    def test_a_row_that_comes_back_at_a_later_pair_is_too_great_all_the_same(self):
        great = Standing(GREATEST, GREATEST, 1)
        self.assertEqual(turned(great, (("bb", 1),)).numbers, great.numbers)
        self.assertEqual(turned(great, (("baab", 7),)).numbers, great.numbers)
        self.assertEqual(outcome(great.numbers, (("baa", 1), ("b", 1))), "too great at 0")

    def test_a_size_inside_a_word_that_falls_out_does_not_count(self):
        for numbers in [(GREATEST, GREATEST, GREATEST), (GREATEST, 3, GREATEST), (-GREATEST, -3, -GREATEST)]:
            for word in ("abba", "cabbac", "abcabccbacba", "bcaacb"):
                self.assertGreater(greatest_along(numbers, word), GREATEST)
                for times in (1, 2, 3, MOST_TIMES):
                    self.assertEqual(outcome(numbers, ((word, times),)), numbers)

    def test_a_size_inside_a_word_that_does_not_fall_out_does_not_count(self):
        found = 0
        for numbers in AT_THE_FOOT:
            for word in PATHS:
                behind = loop(numbers, word)
                if max(abs(number) for number in behind) > GREATEST:
                    self.assertEqual(outcome(numbers, ((word, 1),)), "too great at 0")
                elif greatest_along(numbers, word) > GREATEST:
                    found += 1
                    self.assertEqual(outcome(numbers, ((word, 1),)), behind)
        self.assertGreater(found, 10)

    def test_a_size_inside_words_that_come_round_does_not_count(self):
        found = 0
        for numbers in AT_THE_FOOT:
            for word in ("ab", "bc", "ca", "cb"):
                size = round_of(numbers, word)
                if size is None or greatest_along(numbers, word * size) <= GREATEST:
                    continue
                for times in range(MOST_TIMES - size, MOST_TIMES + 1):
                    behind = loop(numbers, word, times % size)
                    great = max(abs(number) for number in behind) > GREATEST
                    found += not great
                    self.assertEqual(outcome(numbers, ((word, times),)), "too great at 0" if great else behind)
        self.assertGreater(found, 10)

    def test_between_the_same_letters_backwards(self):
        # Turns at a and b lead evenly up, and the turn at c behind them makes a product of what they leave.
        high = (2, 10 ** 140, 10 ** 140 + 1)
        begun = loop(high, "c")
        self.assertEqual(outcome(begun, (("cabc", 10 ** 139),)), loop(outcome(high, (("ab", 10 ** 139),)), "c"))
        self.assertEqual(outcome(begun, (("cabc", 10 ** 160),)), "too great at 0")
        self.assertEqual(outcome(begun, (("cabc", 10 ** 310),)), "too great at 0")

    def test_sizes_that_grow_by_a_factor(self):
        for numbers, word in [((3, 4, 5), "ab"), ((3, 3, 3), "bc"), ((9, 1, 1), "ba"), ((4, -1, 5), "ab")]:
            times = 0
            while max(abs(number) for number in loop(numbers, word, times + 1)) <= GREATEST:
                times += 1
            self.assertGreater(times, 100)
            behind = loop(numbers, word, times)
            self.assertEqual(outcome(numbers, ((word, times),)), behind)
            self.assertEqual(outcome(numbers, ((word, times), (word, 1))), "too great at 1")
            self.assertEqual(outcome(behind, ((word[::-1], times),)), numbers)
            for more in (1, 2, 10 ** 9, MOST_TIMES - times):
                self.assertEqual(outcome(numbers, ((word, times + more),)), "too great at 0")

    def test_down_and_up_in_each_of_two_hundred_pairs(self):
        row = (("ab", 300), ("ba", 300)) * 100
        self.assertEqual(outcome((3, 4, 5), row), (3, 4, 5))

    def test_nothing_is_changed_by_an_error(self):
        ring = Standing(3, 4, 5)
        self.too_great(0, ring, (("abc", MOST_TIMES),))
        self.assertEqual(ring.numbers, (3, 4, 5))


if __name__ == "__main__":
    unittest.main()
