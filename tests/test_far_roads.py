"""`road` and `steps` where the turns are too many to be searched, by sums worked out by hand."""

import unittest

from arrowtrios.kinds import least
from arrowtrios.roads import road, steps
from arrowtrios.standings import Standing, turned
from tests.plain import GREATEST, MOST_TIMES
from tests.roads import behind, check_road, grown
from tests.walks import greatest, walk

# Heights above the foot: small ones are searched, so that the sums hold for the great ones, too.
SMALL = (3, 5, 6, 7, 10)
GREAT = (10 ** 30 + 1, 10 ** 30 + 2, 10 ** 299 + 7, GREATEST - 2)


class EvenTest(unittest.TestCase):
    """The kind of (2, 3, 4): its foot has the rings (2, 1, 2) and (-2, -1, -2), with turns of one to the other.

    Up from (2, 1, 2) there is (-2, -3, -2). On one side of it there follow (2, 3, 4),
    (-2, -5, -4), (2, 5, 6) .., on the other side (4, 3, 2), (-4, -5, -2), (6, 5, 2) ..
    """

    def setUp(self):
        self.between = walk((2, 1, 2), 3)[(-2, -1, -2)]

    def one_side(self, height, sense=1):
        """The standing so many turns, at least two, above (2, 1, 2), or above (-2, -1, -2)."""
        low, high = (height + 1, height + 2) if height % 2 == 0 else (height + 2, height + 1)
        sign = sense if height % 2 == 0 else -sense
        return Standing(sign * 2, sign * low, sign * high)

    def other_side(self, height, sense=1):
        x, y, z = self.one_side(height, sense).numbers
        return Standing(z, y, x)

    def check_near(self, one, other, many):
        over = 2 * max(greatest(one.numbers), greatest(other.numbers))
        self.assertEqual(walk(one.numbers, over)[other.numbers], many)

    def check_sums(self, heights, check):
        for first in heights:
            for second in heights:
                for sense in (1, -1):
                    one = self.one_side(first, sense)
                    check(one, self.one_side(second, sense), abs(first - second))
                    check(one, self.other_side(second, sense), first - 1 + second - 1)
                    for other in (self.one_side(second, -sense), self.other_side(second, -sense)):
                        check(one, other, first + self.between + second)

    def test_near_ones_by_search(self):
        self.check_sums(SMALL, self.check_near)

    def test_all_heights(self):
        self.check_sums(SMALL + GREAT, lambda one, other, many: check_road(self, one, other, many))

    def test_the_members_of_the_foot(self):
        for height in SMALL + GREAT:
            for sense in (1, -1):
                one = self.one_side(height, sense)
                for numbers, turns in walk((sense * 2, sense, sense * 2), 2).items():
                    check_road(self, one, Standing(*numbers), height + turns)

    def test_unlike_kinds(self):
        for height in SMALL + GREAT[:3]:
            one = self.one_side(height)
            x, y, z = one.numbers
            for numbers in [(x, y + 1, z + 1), (-x, -y, -z), (y, x, z), (x, y, y), (3, 4, 5), (0, 0, 0), (x, -y, z)]:
                other = Standing(*numbers)
                if least(one) != least(other):
                    self.assertEqual([road(one, other), steps(one, other)], [None, None])
            self.assertIsNone(road(one, Standing(x, y + 2, z + 1)))
            self.assertIsNone(steps(Standing(y, y, x), one))


class ThirdPlaceTest(unittest.TestCase):
    def test_a_turn_or_two_behind(self):
        heights = [4, 6, 7, 10 ** 30, 10 ** 30 + 1, 10 ** 36]
        ends = [("c", 1), ("ca", 2), ("cb", 2), ("cac", 3), ("cba", 3), ("cbc", 3)]
        for first in heights:
            one = behind((2, 3, 4), ("ab", first // 2), ("a", first % 2))
            for word, up in ends:
                upper = turned(one, ((word, 1),))
                check_road(self, one, upper, up)
                for second in heights:
                    other = behind((2, 3, 4), ("ab", second // 2), ("a", second % 2))
                    check_road(self, upper, other, up + abs(first - second))
                    if first != second:
                        for further, further_up in ends[:3]:
                            check_road(self, upper, turned(other, ((further, 1),)), up + abs(first - second) + further_up)

    def test_behind_one_standing(self):
        for height in (4, 10 ** 40):
            one = behind((2, 3, 4), ("ab", height))
            check_road(self, turned(one, (("ca", 1),)), turned(one, (("cb", 1),)), 2)
            check_road(self, turned(one, (("ca", 1),)), turned(one, (("cac", 1),)), 1)
            check_road(self, turned(one, (("ca", 1),)), turned(one, (("a", 1),)), 3)
            check_road(self, turned(one, (("cac", 1),)), turned(one, (("cba", 1),)), 4)

    def test_near_ones_by_search(self):
        for first in (2, 3, 4):
            for second in (2, 3, 5):
                one = behind((2, 3, 4), ("ab", first), ("c", 1))
                other = behind((2, 3, 4), ("ab", second), ("ca", 1))
                over = 2 * max(greatest(one.numbers), greatest(other.numbers))
                turns = 2 * abs(first - second) + 3 if first != second else 1
                self.assertEqual(walk(one.numbers, over)[other.numbers], turns)
                check_road(self, one, other, turns)


class OtherEvenStepsTest(unittest.TestCase):
    def test_differences_other_than_one(self):
        # Two turns up add twice the difference.
        for least_size, difference in [(3, 7), (2, 3), (2, 2), (5, 5), (10 ** 20, 10 ** 21), (4, 10 ** 99)]:
            for tie in range(3):
                numbers = [(2, least_size, least_size + difference), (least_size + difference, 2, least_size),
                           (least_size, least_size + difference, 2)][tie]
                word = ["ab", "bc", "ca"][tie]
                standings = [behind(numbers, (word, times)) for times in (0, 1, 2, 10 ** 30, 10 ** 150 + 1)]
                changes = {standing.sizes[(tie + 2) % 3] for standing in standings}
                self.assertEqual(len(changes), 5)
                for one, first in zip(standings, (0, 1, 2, 10 ** 30, 10 ** 150 + 1)):
                    for other, second in zip(standings, (0, 1, 2, 10 ** 30, 10 ** 150 + 1)):
                        check_road(self, one, other, 2 * abs(first - second))

    def test_a_standing_with_two_such_ties(self):
        # (2, 2, r) has a tie of two arrows at either side of the place b.
        for r in (3, 4, 5, 9, 10 ** 50):
            ups = [behind((2, 2, r), (word, times)) for word in ("ab", "cb") for times in (1, 2, 10 ** 60)]
            heights = [2, 4, 2 * 10 ** 60] * 2
            for at, one in enumerate(ups):
                check_road(self, one, Standing(2, 2, r), heights[at])
                for other_at, other in enumerate(ups):
                    same_side = at // 3 == other_at // 3
                    many = abs(heights[at] - heights[other_at]) if same_side else heights[at] + heights[other_at]
                    check_road(self, one, other, many)


class LongestTest(unittest.TestCase):
    def test_hundreds_of_turns_on_both_sides(self):
        for numbers in [(3, 3, 3), (3, 4, 5)]:
            ups = [grown(Standing(*numbers), word) for word in ("ab", "ac", "ba", "bc", "ca", "cb", "abc", "abac")]
            self.assertGreater(max(turns for _, turns in ups), 700)
            for one, first in ups:
                for other, second in ups:
                    row = road(one, other)
                    self.assertLessEqual(len(row), 200)
                    self.assertEqual(turned(one, row).numbers, other.numbers)
            # Each is the whole foot, so ways up that begin at unlike places have nothing in common.
            self.assertEqual(steps(ups[0][0], ups[2][0]), ups[0][1] + ups[2][1])
            self.assertEqual(steps(ups[0][0], ups[1][0]), ups[0][1] + ups[1][1] - 2)

    def test_a_tie_of_two_arrows_far_below(self):
        base = behind((2, 3, 4), ("ab", 10 ** 12), ("c", 1))
        other = behind((2, 3, 4), ("ab", 10 ** 299))
        for word in ("ba", "ab", "acb", "bcbca"):
            one, many = grown(base, word)
            self.assertGreater(many, 3)
            check_road(self, one, other, many + 1 + 2 * (10 ** 299 - 10 ** 12))

    def test_times_stay_within_a_row(self):
        one, other = Standing(2, GREATEST - 1, GREATEST), Standing(-2, 1 - GREATEST, -GREATEST)
        row = road(one, other)
        self.assertTrue(all(times <= MOST_TIMES for _, times in row))
        self.assertEqual(turned(one, row).numbers, other.numbers)

    def test_told_in_the_document(self):
        far = Standing(2, 10 ** 30, 10 ** 30 + 1)
        check_road(self, Standing(2, 4, 5), far, 999999999999999999999999999996)
        self.assertEqual(steps(Standing(3, 4, 5), behind((3, 4, 5), ("bac", 2), ("ab", 1))), 8)


if __name__ == "__main__":
    unittest.main()
