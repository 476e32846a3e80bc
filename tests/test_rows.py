"""Rows of turns: their length, and what is no row of turns [3] [4] [8]."""

import unittest

from arrowtrios.errors import InvalidTurns, NotAStanding
from arrowtrios.standings import Standing, length, turned
from tests.plain import MOST_TIMES, NO_INTEGERS

RING = Standing(3, 4, 5)
GOOD = ("ab", 1)

NO_ROWS = (
    None, True, 0, 7, "ab", "", b"ab", [], [GOOD], [("ab", 1)], {}, {GOOD: True}, {"ab": 1}, set(), object(), RING,
)

NO_PAIRS = (
    None, True, 0, 5, "ab", "a1", "", b"ab", [], ["ab", 1], {}, {"ab": 1}, RING, object(),
    (), ("ab",), (1,), ("ab", 1, 1), ("ab", 1, None), (("ab", 1), ("ab", 1)), (1, "ab"), (GOOD,),
)

NO_WORDS = (
    "", "abcabcabcabca", "a" * 13, "a" * 2000, "d", "abd", "dab", "A", "aB", "ABC", "a b", " a", "a ", "a\n", "a1", "~",
    None, True, 0, 1, b"ab", (), ("a",), ("a", "b"), [], ["a"], ["a", "b"], {}, {"a": 1}, RING, object(),
)

NO_TIMES = (-1, -2, -MOST_TIMES, MOST_TIMES + 1, MOST_TIMES * 10, 10 ** 390) + NO_INTEGERS


class LengthTest(unittest.TestCase):
    def test_lengths(self):
        cases = [
            ((), 0), ((("a", 0),), 0), ((("a", 1),), 1), ((("abc", 5),), 15), ((("ba", 3), ("c", 2)), 8),
            ((("abba", 2), ("aa", 3)), 14), ((("ab", MOST_TIMES), ("c", 0), ("abc", 1)), 2 * MOST_TIMES + 3),
        ]
        for row, turns in cases:
            with self.subTest(row=row):
                self.assertEqual(length(row), turns)
                self.assertIs(type(length(row)), int)

    def test_the_longest_row(self):
        row = (("abcabcabcabc", MOST_TIMES),) * 200
        self.assertEqual(length(row), 2400 * 10 ** 310)
        self.assertEqual(length((("a", 1),) * 200), 200)

    def test_given_by_name_and_not_changed(self):
        row = (("ba", 3), ("c", 2))
        self.assertEqual(length(turns=row), 8)
        self.assertEqual(length(turns=row), 8)
        self.assertEqual(row, (("ba", 3), ("c", 2)))


class InvalidTurnsTest(unittest.TestCase):
    def wrong(self, index, turns):
        for call in (lambda: length(turns), lambda: turned(RING, turns)):
            with self.assertRaises(InvalidTurns) as caught:
                call()
            self.assertEqual(caught.exception.index, index)
            self.assertIs(type(caught.exception.index), type(index))

    def test_what_is_no_tuple(self):
        for value in NO_ROWS:
            with self.subTest(value=value):
                self.wrong(None, value)

    def test_elements_that_are_no_pairs(self):
        for value in NO_PAIRS:
            with self.subTest(value=value):
                self.wrong(0, (value,))
                self.wrong(2, (GOOD, GOOD, value, GOOD))

    def test_a_pair_alone_is_no_row(self):
        self.wrong(0, GOOD)

    def test_words_that_are_none(self):
        for value in NO_WORDS:
            with self.subTest(value=value):
                self.wrong(0, ((value, 1),))
                self.wrong(1, (GOOD, (value, 0)))

    def test_words_of_one_to_twelve_letters_are_let(self):
        for word in ("a", "b", "c", "abcabcabcabc", "aaaaaaaaaaaa"):
            self.assertEqual(length(((word, 2),)), 2 * len(word))
            self.assertIsInstance(turned(Standing(0, 0, 0), ((word, 2),)), Standing)

    def test_times_that_are_none(self):
        for value in NO_TIMES:
            with self.subTest(value=value):
                self.wrong(0, (("ab", value),))
                self.wrong(3, (GOOD, GOOD, GOOD, ("ab", value)))

    def test_times_from_none_to_the_most_are_let(self):
        for times in (0, 1, MOST_TIMES - 1, MOST_TIMES):
            self.assertEqual(length((("ab", times),)), 2 * times)
            self.assertEqual(turned(Standing(0, 0, 0), (("ab", times),)).numbers, (0, 0, 0))

    def test_the_first_wrong_element_counts(self):
        self.wrong(1, (GOOD, ("ab", -1), None, ("", 1)))
        self.wrong(0, ("ab", 1, None))

    def test_too_many_pairs(self):
        self.assertEqual(length((GOOD,) * 200), 400)
        self.wrong(200, (GOOD,) * 201)
        self.wrong(200, (GOOD,) * 1000)
        self.wrong(200, (GOOD,) * 200 + (None,))
        self.wrong(200, (GOOD,) * 201 + (None,))
        self.wrong(199, (GOOD,) * 199 + (None, GOOD))
        self.wrong(7, (GOOD,) * 7 + (None,) + (GOOD,) * 300)

    def test_a_standing_that_is_none_is_told_first(self):
        for standing in (None, (3, 4, 5), [3, 4, 5], "ring", 3, True, {}, object(), Standing):
            for turns in (None, (), (GOOD,), (None,)):
                with self.assertRaises(NotAStanding) as caught:
                    turned(standing, turns)
                self.assertIs(caught.exception.given, standing)

    def test_what_is_marked_last_is_told_last(self):
        great = (("abc", MOST_TIMES),)
        self.wrong(1, great + (None,))
        self.wrong(200, great * 201)
        with self.assertRaises(NotAStanding):
            turned((3, 4, 5), great)


if __name__ == "__main__":
    unittest.main()
