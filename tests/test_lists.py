"""`standings_to`, `least_above` and `many_at`, against walks turn by turn."""

import unittest

from arrowtrios.errors import TooMany
from arrowtrios.kinds import foot
from arrowtrios.limits import MOST_LISTED
from arrowtrios.lists import least_above, many_at, standings_to
from arrowtrios.standings import Standing
from tests.plain import GREATEST
from tests.roads import behind, grown
from tests.walks import foot_among, greatest, kinds_of_all, levels, walk

# One standing of kinds of all forms.
KINDS = (
    (3, 3, 3), (3, 4, 5), (3, 4, 6), (4, 4, 4), (5, 7, 9), (2, 2, 2), (2, 6, 6), (-2, -7, -7), (2, 3, 4), (2, 3, 5),
    (1, 1, 1), (1, 1, 0), (1, 1, 7), (1, 2, 3), (1, 5, -9), (0, 0, 0), (0, 3, 0), (4, 0, 7), (3, 3, -5), (2, -4, 9),
    (3, 3, 8), (2, 2, 5),
)


def within(members, bound):
    """The ascending tuple of those with sizes up to a bound."""
    return tuple(sorted(numbers for numbers in members if greatest(numbers) <= bound))


def sizes_above(members, bound):
    """The sizes above a bound that come."""
    return sorted({abs(number) for numbers in members for number in numbers if abs(number) > bound})


class ListedTest(unittest.TestCase):
    def test_bounds_from_0_to_60(self):
        for numbers in KINDS:
            members = walk(numbers, 130)
            for bound in range(61):
                found = standings_to(Standing(*numbers), bound)
                self.assertIs(type(found), tuple)
                self.assertEqual(found, within(members, bound), (numbers, bound))

    def test_all_kinds_of_small_standings(self):
        for kind in kinds_of_all(3, 30):
            for numbers in (min(kind), max(kind)):
                for bound in (0, 1, 2, 3, 4, 5, 7, 10, 14):
                    self.assertEqual(standings_to(Standing(*numbers), bound), within(kind, bound))

    def test_bounds_at_the_sizes_that_come(self):
        for numbers in KINDS:
            members = walk(numbers, 600)
            for size in sizes_above(members, -1)[:40]:
                for bound in (size - 1, size, size + 1):
                    if 0 <= bound <= 300:
                        self.assertEqual(standings_to(Standing(*numbers), bound), within(members, bound))

    def test_the_greatest_bound(self):
        for numbers in [(3, 3, 3), (3, 4, 5), (5, 7, 9), (2, 2, 2), (0, 3, 0), (1, 1, 7), (3, 3, -5), (30, 40, 50)]:
            self.assertEqual(standings_to(Standing(*numbers), 10 ** 6), within(walk(numbers, 10 ** 6), 10 ** 6))
        million = 10 ** 6
        self.assertEqual(standings_to(Standing(million, million, million), million), ((million,) * 3,))
        self.assertEqual(standings_to(Standing(million, million, million), million - 1), ())
        self.assertEqual(standings_to(Standing(million + 1, -1, 0), million), ())

    def test_from_anywhere_in_the_kind(self):
        for numbers in [(3, 4, 5), (2, 3, 4), (3, 3, 3), (2, 7, 7)]:
            expected = standings_to(Standing(*numbers), 50)
            for standing in [behind(numbers, ("cab", 2)), grown(Standing(*numbers), "abc")[0]]:
                self.assertEqual(standings_to(standing, 50), expected)
        self.assertEqual(
            standings_to(Standing(2, GREATEST - 1, GREATEST), 40), standings_to(Standing(2, 3, 4), 40))

    def test_a_foot_beyond_the_bound_holds_together_what_is_within(self):
        # The turn at b leads from the free standing to a ring with sizes 1, 40, 60, one more to (1, 20, 40), ..
        members = walk((1, 40, -20), 130)
        for bound in (19, 20, 39, 40, 41, 59, 60):
            self.assertEqual(standings_to(Standing(1, 40, -20), bound), within(members, bound))

    def test_told_in_the_document(self):
        self.assertEqual(standings_to(Standing(3, 4, 5), 7), ((-3, -4, -7), (3, 4, 5)))
        self.assertEqual([standings_to(Standing(3, 4, 5), 4), len(standings_to(Standing(1, 1, 0), 1))], [(), 14])


class TooManyTest(unittest.TestCase):
    def check_too_many(self, standing, bound):
        for call in (standings_to, least_above):
            with self.assertRaises(TooMany) as caught:
                call(standing, bound)
            self.assertEqual(caught.exception.limit, 2000)

    def test_2000_are_let_and_one_more_is_not(self):
        """Beside a tie of two arrows the standings come one by one."""
        self.assertEqual(MOST_LISTED, 2000)
        let = 0
        for numbers in [(2, 3, 4), (2, 3, 5), (2, 2, 3), (2, 2, 0), (1, 2, 5), (1, 2, 8), (2, 0, 3), (2, 1, 6)]:
            members = walk(numbers, 6000)
            # The least bound that has too many is the greatest size of the 2001st one.
            ascending = sorted(greatest(member) for member in members)
            many = ascending[2000]
            self.check_too_many(Standing(*numbers), many)
            self.check_too_many(Standing(*numbers), 10 ** 6)
            found = standings_to(Standing(*numbers), many - 1)
            self.assertEqual(found, within(members, many - 1))
            self.assertEqual(least_above(Standing(*numbers), many - 1), many)
            let += len(found) == 2000
        self.assertGreater(let, 0)


class LeastAboveTest(unittest.TestCase):
    def test_bounds_from_0_to_25(self):
        for numbers in KINDS:
            # What is next to sizes up to 25 has sizes up to 25 * 25 + 25.
            above = sizes_above(walk(numbers, 700), -1)
            for bound in range(26):
                expected = min([size for size in above if size > bound], default=None)
                self.assertEqual(least_above(Standing(*numbers), bound), expected, (numbers, bound))

    def test_none_where_no_greater_size_comes(self):
        cases = [((2, 2, 2), 2), ((0, 0, 0), 0), ((0, 3, 0), 3), ((1, 1, 0), 1), ((1, 0, 0), 10 ** 6), ((2, 2, 2), 99)]
        for numbers, bound in cases:
            self.assertIsNone(least_above(Standing(*numbers), bound))
        self.assertEqual(least_above(Standing(2, 2, 2), 1), 2)
        self.assertEqual(least_above(Standing(0, 3, 0), 2), 3)
        self.assertEqual(least_above(Standing(1, 1, 0), 0), 1)

    def test_the_greatest_bound(self):
        for numbers in [(3, 3, 3), (3, 4, 5), (5, 7, 9), (30, 40, 50), (3, 3, -5)]:
            near = walk(numbers, 5 * 10 ** 6)
            self.assertEqual(least_above(Standing(*numbers), 10 ** 6), sizes_above(near, 10 ** 6)[0])

    def test_sizes_far_above_the_bound(self):
        for numbers in [(0, GREATEST, 0), (GREATEST, GREATEST, GREATEST)]:
            self.assertEqual(least_above(Standing(*numbers), 10 ** 6), GREATEST)
        self.assertEqual(least_above(Standing(7, GREATEST, -9), 0), 7)
        self.assertEqual(least_above(Standing(7, GREATEST, -9), 7), 9)
        self.assertEqual(least_above(Standing(7, 10 ** 200, -9), 9), 10 ** 200)
        # As with 100 in the place of 10 ** 200.
        self.assertEqual(sizes_above(walk((1, 100, -9), 300), 9), [100, 109])
        self.assertEqual(least_above(Standing(1, 10 ** 200, -9), 9), 10 ** 200)
        self.assertEqual(sizes_above(walk((1, 100, 9), 300), 9), [91, 100])
        self.assertEqual(least_above(Standing(1, 10 ** 200, 9), 9), 10 ** 200 - 9)

    def test_from_anywhere_in_the_kind(self):
        for numbers in [(3, 4, 5), (2, 3, 4), (3, 3, 3), (2, 7, 7)]:
            standing = grown(Standing(*numbers), "abc")[0]
            for bound in (0, 5, 40):
                self.assertEqual(least_above(standing, bound), least_above(Standing(*numbers), bound))

    def test_told_in_the_document(self):
        self.assertEqual(least_above(Standing(3, 4, 5), 5), 7)


class ManyAtTest(unittest.TestCase):
    def test_the_first_heights(self):
        for numbers in KINDS:
            told = levels(foot(Standing(*numbers)), 7)
            for turns, members in enumerate(told):
                self.assertEqual(many_at(Standing(*numbers), turns), len(members), (numbers, turns))

    def test_all_kinds_of_small_standings(self):
        for kind in kinds_of_all(3, 14):
            told = levels(foot_among(kind), 3)
            for turns in range(4):
                self.assertEqual(many_at(Standing(*max(kind)), turns), len(told[turns]))

    def test_great_heights(self):
        # Each standing above the foot has two above it.
        for numbers in KINDS:
            first = many_at(Standing(*numbers), 1)
            for turns in (2, 10, 64, 65, 999, 1000):
                self.assertEqual(many_at(Standing(*numbers), turns), first * 2 ** (turns - 1))
        self.assertEqual(many_at(Standing(3, 4, 5), 1000), 3 * 2 ** 999)

    def test_from_anywhere_in_the_kind(self):
        for numbers in [(3, 4, 5), (2, 3, 4), (2, 6, 6)]:
            standing = grown(Standing(*numbers), "cba")[0]
            for turns in (0, 1, 5, 1000):
                self.assertEqual(many_at(standing, turns), many_at(Standing(*numbers), turns))
        self.assertEqual([many_at(Standing(2, GREATEST - 1, GREATEST), turns) for turns in (0, 2)], [10, 4])

    def test_told_in_the_document(self):
        ring, path = Standing(3, 4, 5), Standing(2, 3, 4)
        self.assertEqual([many_at(ring, 0), many_at(ring, 1), many_at(ring, 10)], [1, 3, 1536])
        self.assertEqual([many_at(path, 0), many_at(path, 2)], [10, 4])
        self.assertEqual([many_at(Standing(2, 6, 6), 3), many_at(Standing(2, 2, 2), 1)], [8, 0])


if __name__ == "__main__":
    unittest.main()
