"""`descent` and `freeing`: the fewest turns to the foot and to a free standing."""

import random
import unittest

from arrowtrios.errors import TooGreat
from arrowtrios.kinds import foot, free_ones, is_ringed
from arrowtrios.roads import descent, freeing
from arrowtrios.standings import Standing, length, turned
from tests.plain import GREATEST, loop_row
from tests.roads import behind, grown
from tests.walks import foot_among, free_of, goes_round, greatest, kinds_of_all, walk

MOST, OVER = 3, 25


def nearest(numbers, goals, over):
    """The fewest turns to one of the goals, by a search breadth first."""
    turns = walk(numbers, over)
    return min(turns[goal] for goal in goals)


class NearTheFootTest(unittest.TestCase):
    @classmethod
    def setUpClass(cls):
        cls.kinds = kinds_of_all(MOST, OVER)

    def test_descent(self):
        longest = 0
        for kind in self.kinds:
            members = foot_among(kind)
            for numbers in kind:
                row = descent(Standing(*numbers))
                self.assertIs(type(row), tuple)
                self.assertIn(turned(Standing(*numbers), row).numbers, members)
                self.assertIn(loop_row(numbers, row), members)
                self.assertEqual(length(row), nearest(numbers, members, OVER))
                self.assertEqual(row == (), numbers in members)
                longest = max(longest, length(row))
        self.assertGreater(longest, 15)

    def test_freeing(self):
        for kind in self.kinds:
            free = free_of(kind)
            for numbers in kind:
                row = freeing(Standing(*numbers))
                if not free:
                    self.assertIsNone(row)
                    continue
                self.assertIs(type(row), tuple)
                self.assertIn(loop_row(numbers, row), free)
                self.assertIn(turned(Standing(*numbers), row).numbers, free)
                self.assertEqual(length(row), nearest(numbers, free, OVER))
                self.assertEqual(row == (), numbers in free)

    def test_drawn_turns_away_from_the_foot(self):
        """A way up without doubles has to be gone back, turn by turn."""
        draw = random.Random(3)
        reached = 0
        for kind in self.kinds:
            members = foot_among(kind)
            for _ in range(4):
                standing = Standing(*draw.choice(list(kind)))
                height = length(descent(standing))
                for letter in (draw.choice("abc") for _ in range(15)):
                    try:
                        further = turned(standing, ((letter, 1),))
                    except TooGreat:
                        break
                    if height > 0 and greatest(further.numbers) < greatest(standing.numbers):
                        continue
                    height = 0 if further.numbers in members else height + 1
                    standing = further
                self.assertEqual(length(descent(standing)), height)
                self.assertIn(turned(standing, descent(standing)).numbers, members)
                reached = max(reached, height)
        self.assertGreater(reached, 7)


class FarTest(unittest.TestCase):
    def check_far(self, standing, height):
        row = descent(standing)
        self.assertEqual(length(row), height)
        end = turned(standing, row)
        self.assertIn(end.numbers, foot(standing))
        if is_ringed(standing):
            self.assertIsNone(freeing(standing))
            return
        loose = freeing(standing)
        self.assertEqual(length(loose), height + (1 if goes_round(end.numbers) else 0))
        self.assertIn(turned(standing, loose).numbers, free_ones(standing))

    def test_beside_a_tie_of_two_arrows(self):
        # (2, n, n + 1) comes down to (2, 1, 2) or (2, 2, 1) by n - 1 turns.
        for n in (2, 3, 4, 5, 10, 11, 10 ** 30, 10 ** 30 + 1, GREATEST - 2, GREATEST - 1):
            for numbers in [(2, n, n + 1), (-n, -n - 1, -2), (n + 1, 2, n), (-2, -n - 1, -n)]:
                self.check_far(Standing(*numbers), n - 1)

    def test_with_greater_even_steps(self):
        # (2, q, r) comes down by r - q each turn, and is of the foot once a size is below 2.
        for difference in (2, 3, 7, 10 ** 20, 10 ** 150 + 9):
            for least in (2, 3, 5, difference + 1, difference // 2 + 3):
                if least > difference + 1:
                    continue
                for many in (1, 2, 3, 10, 10 ** 100, 10 ** 100 + 1, 10 ** 149):
                    low = least + (many - 1) * difference
                    self.check_far(Standing(2, low, low + difference), many)
                    self.check_far(Standing(-low - difference, -low, -2), many)

    def test_with_turns_at_the_third_place_behind(self):
        for n in (3, 4, 10 ** 30, 10 ** 40 + 1):
            standing = Standing(2, n, n + 1)
            for word in ("c", "ca", "cb", "cac", "cbc", "cab", "cba", "cacb"):
                self.check_far(turned(standing, ((word, 1),)), n - 1 + len(word))

    def test_the_longest_ways_beside_other_ties(self):
        # From these least rings, each alone in its foot, all turns lead up.
        longest = 0
        for numbers in [(3, 3, 3), (3, 4, 5), (5, 3, 4), (-3, -3, -4)]:
            for word in ("ab", "cb", "ca", "ba", "abc", "abcb"):
                standing, many = grown(Standing(*numbers), word)
                self.check_far(standing, many)
                longest = max(longest, many)
        self.assertGreater(longest, 700)

    def test_sizes_of_just_the_greatest(self):
        for numbers in [(GREATEST, GREATEST, -GREATEST), (GREATEST, 0, 0), (1, GREATEST, GREATEST),
                        (-GREATEST, -1, -GREATEST), (2, GREATEST, GREATEST), (GREATEST, GREATEST, GREATEST)]:
            self.check_far(Standing(*numbers), 0)
        self.check_far(Standing(2, GREATEST - 1, GREATEST), GREATEST - 2)
        self.check_far(Standing(GREATEST, 2, GREATEST - 2), GREATEST // 2 - 1)
        self.check_far(Standing(-GREATEST, -GREATEST // 2, -2), 1)
        self.check_far(Standing(GREATEST, 2, 2), 1)
        self.check_far(Standing(GREATEST, 3, 2), 1)

    def test_free_at_once_or_by_one_turn(self):
        self.assertEqual(freeing(Standing(3, 4, -5)), ())
        self.assertEqual(freeing(Standing(0, 0, 0)), ())
        for numbers in [(1, 1, 1), (1, 2, 3), (1, 3, 2), (-5, -1, -5), (1, GREATEST, GREATEST - 1), (7, GREATEST, 1)]:
            row = freeing(Standing(*numbers))
            self.assertEqual(length(row), 1)
            self.assertFalse(turned(Standing(*numbers), row).is_ring)

    def test_told_in_the_document(self):
        self.assertEqual(length(descent(behind((3, 4, 5), ("bac", 2)))), 6)
        self.assertEqual([descent(Standing(3, 4, 5)), freeing(Standing(3, 4, 5))], [(), None])
        self.assertEqual(length(freeing(Standing(2, 3, 4))), 3)


if __name__ == "__main__":
    unittest.main()
