"""`turned` against turns made one by one, and what a turn is [7] [8]."""

import itertools
import random
import unittest

from arrowtrios.standings import Standing, turned
from tests.plain import GREATEST, loop, loop_row, outcome, too_great_at, turn

SMALL_WORDS = ["".join(letters) for many in (1, 2, 3) for letters in itertools.product("abc", repeat=many)]


def drawn_number(draw):
    """A number of one of many sizes, small ones and two the most often."""
    size = draw.choice([0, 1, 2, 2, 3, draw.randint(0, 9), draw.randint(0, 10 ** draw.randint(1, 300))])
    return size if draw.random() < 0.6 else -size


def drawn_numbers(draw):
    """The numbers of a standing, rings and free ones."""
    numbers = [drawn_number(draw) for _ in range(3)]
    if draw.random() < 0.5:
        numbers = [abs(number) for number in numbers]
    return tuple(numbers)


def drawn_row(draw):
    """A row of several pairs, with few enough turns for a plain loop."""
    row = []
    for _ in range(draw.randint(0, 4)):
        letters = draw.choice(["abc", "ab", "bc", "ca"])
        word = "".join(draw.choice(letters) for _ in range(draw.choice([1, 2, 2, 3, 4, 5, 12])))
        # Turns at all three places add up the figures of two sizes each time, so only few of them can be looped.
        row.append((word, draw.randint(0, 14 // len(word) if len(letters) == 3 else 5)))
    return tuple(row)


class TurnTest(unittest.TestCase):
    def test_one_turn_at_each_place(self):
        cases = [
            ((3, 4, 5), "a", (-3, -11, -5)), ((3, 4, 5), "b", (-3, -4, -7)), ((3, 4, 5), "c", (-17, -4, -5)),
            ((-3, -4, -5), "a", (3, 11, 5)), ((-3, -4, -5), "b", (3, 4, 7)), ((-3, -4, -5), "c", (17, 4, 5)),
            ((3, -4, 5), "a", (-3, -19, -5)), ((3, -4, 5), "b", (-3, 4, 5)), ((3, -4, 5), "c", (3, 4, -5)),
            ((0, 4, 5), "a", (0, 4, -5)), ((0, 4, 5), "b", (0, -4, 5)), ((0, 4, 5), "c", (-20, -4, -5)),
            ((0, 0, 0), "a", (0, 0, 0)), ((2, 2, 2), "b", (-2, -2, -2)),
        ]
        for numbers, letter, behind in cases:
            with self.subTest(numbers=numbers, letter=letter):
                self.assertEqual(turn(numbers, letter), behind)
                self.assertEqual(turned(Standing(*numbers), ((letter, 1),)).numbers, behind)

    def test_two_turns_at_one_place_change_nothing_and_the_mark_stays(self):
        for numbers in itertools.product([-3, -2, -1, 0, 1, 2, 4], repeat=3):
            standing = Standing(*numbers)
            for letter in "abc":
                once = turned(standing, ((letter, 1),))
                self.assertEqual(once.mark, standing.mark)
                self.assertTrue(turned(once, ((letter, 1),)) == standing)
                self.assertTrue(turned(standing, ((letter, 2),)) == standing)

    def test_all_small_standings_and_words(self):
        for numbers in itertools.product([-2, -1, 0, 1, 2, 3], repeat=3):
            standing = Standing(*numbers)
            for word in SMALL_WORDS:
                for times in (1, 2, 3):
                    self.assertEqual(turned(standing, ((word, times),)).numbers, loop(numbers, word, times))

    def test_two_places_and_many_times(self):
        for numbers in itertools.product([-3, -2, -1, 0, 1, 2, 3, 7], repeat=3):
            for word in ("ab", "ba", "bc", "ca", "abab"):
                for times in (5, 6, 13):
                    row = ((word, times),)
                    self.assertEqual(outcome(numbers, row), loop(numbers, word, times), (numbers, row))

    def test_drawn_standings_and_rows(self):
        draw = random.Random(20261120)
        for _ in range(6000):
            numbers, row = drawn_numbers(draw), drawn_row(draw)
            index = too_great_at(numbers, row)
            expected = f"too great at {index}" if index is not None else loop_row(numbers, row)
            self.assertEqual(outcome(numbers, row), expected, (numbers, row))

    def test_no_pairs_and_no_times_change_nothing(self):
        for numbers in [(3, 4, 5), (0, 0, 0), (GREATEST, GREATEST, GREATEST), (-2, 7, -GREATEST)]:
            standing = Standing(*numbers)
            for row in [(), (("abc", 0),), (("ab", 0), ("c", 0)), (("abcabcabcabc", 0),) * 200]:
                behind = turned(standing, row)
                self.assertIsInstance(behind, Standing)
                self.assertTrue(behind == standing)

    def test_the_first_letter_is_turned_first(self):
        self.assertEqual(turned(Standing(3, 4, 5), (("ba", 1),)).numbers, turn(turn((3, 4, 5), "b"), "a"))
        self.assertNotEqual(turn(turn((3, 4, 5), "b"), "a"), turn(turn((3, 4, 5), "a"), "b"))

    def test_pairs_are_done_in_their_order(self):
        row = (("a", 1), ("bc", 2), ("b", 3))
        self.assertEqual(turned(Standing(3, 4, 5), row).numbers, loop((3, 4, 5), "abcbcbbb"))

    def test_given_by_name(self):
        behind = turned(turns=(("b", 1),), standing=Standing(3, 4, 5))
        self.assertEqual(behind.numbers, (-3, -4, -7))

    def test_what_is_given_is_not_changed_and_equal_calls_tell_equal_things(self):
        standing = Standing(3, 4, 5)
        row = (("bac", 2), ("ab", 3), ("caac", 10 ** 310))
        first = turned(standing, row)
        self.assertEqual(standing.numbers, (3, 4, 5))
        self.assertEqual(row, (("bac", 2), ("ab", 3), ("caac", 10 ** 310)))
        self.assertTrue(turned(standing, row) == first)
        self.assertTrue(turned(Standing(3, 4, 5), tuple(row)) == first)


if __name__ == "__main__":
    unittest.main()
