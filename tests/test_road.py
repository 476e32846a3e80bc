"""`road` and `steps` near the foot, against searches breadth first; and what is given."""

import random
import unittest

from arrowtrios.kinds import foot
from arrowtrios.roads import descent, freeing, road, steps
from arrowtrios.standings import Standing, length, turned
from tests.plain import GREATEST, loop_row
from tests.roads import check_road
from tests.walks import greatest, kinds_of_all, walk

MOST, OVER = 3, 25


class SearchTest(unittest.TestCase):
    @classmethod
    def setUpClass(cls):
        cls.kinds = kinds_of_all(MOST, OVER)

    def test_all_pairs_of_each_kind(self):
        draw = random.Random(4)
        many = 0
        for kind in self.kinds:
            starts = [numbers for numbers in kind if greatest(numbers) <= MOST]
            starts = draw.sample(starts, min(6, len(starts))) + [max(kind, key=greatest)]
            for start in starts:
                one = Standing(*start)
                for numbers, turns in walk(start, OVER).items():
                    other = Standing(*numbers)
                    row = road(one, other)
                    self.assertEqual(loop_row(start, row), numbers)
                    self.assertEqual(length(row), turns, (start, numbers))
                    self.assertEqual(steps(one, other), turns)
                    many += 1
        self.assertGreater(many, 5000)

    def test_roads_told_are_roads_of_turned_there_and_back(self):
        draw = random.Random(5)
        for kind in self.kinds:
            start = draw.choice(list(kind))
            turns = walk(start, OVER)
            for numbers in draw.sample(sorted(turns), min(5, len(turns))):
                check_road(self, Standing(*start), Standing(*numbers), turns[numbers])

    def test_none_between_unlike_kinds(self):
        draw = random.Random(6)
        for at, kind in enumerate(self.kinds):
            one = Standing(*draw.choice(list(kind)))
            for other_at, further in enumerate(self.kinds):
                if at != other_at:
                    other = Standing(*draw.choice(list(further)))
                    self.assertIsNone(road(one, other))
                    self.assertIsNone(steps(one, other))

    def test_nothing_to_be_done(self):
        for kind in self.kinds:
            for numbers in kind:
                self.assertEqual(road(Standing(*numbers), Standing(*numbers)), ())
                self.assertEqual(steps(Standing(*numbers), Standing(*numbers)), 0)

    def test_up_from_the_foot_as_far_as_down_to_it(self):
        for kind in self.kinds:
            for numbers in kind:
                standing = Standing(*numbers)
                end = turned(standing, descent(standing))
                self.assertEqual(steps(end, standing), length(descent(standing)))


class WithinTheFootTest(unittest.TestCase):
    def test_all_pairs_of_great_feet(self):
        """Feet of all forms, with members beyond what a standing may have between those that are let."""
        great = GREATEST
        for numbers in [(1, great, -great), (1, great, great), (1, great - 1, -7), (-great, 1, great // 2), (1, 2, -5),
                        (great, 0, great), (great, great, -great), (1, 1, great), (1, 1, 1), (1, 1, 0), (1, 0, 0)]:
            # Ten times over the greatest one is more than a foot holds.
            turns_from = {member: walk(member, 10 * greatest(numbers)) for member in foot(Standing(*numbers))}
            let = [member for member in turns_from if greatest(member) <= great]
            for start in let:
                for goal in let:
                    row = road(Standing(*start), Standing(*goal))
                    self.assertEqual(turned(Standing(*start), row).numbers, goal)
                    self.assertEqual(length(row), turns_from[start][goal])
                    self.assertEqual(steps(Standing(*start), Standing(*goal)), turns_from[start][goal])

    def test_the_greatest_foot(self):
        members = foot(Standing(1, GREATEST, 1))
        self.assertEqual(len(foot(Standing(1, 7, 1))), 36)
        self.assertEqual(len(members), 36)
        self.assertTrue(all(greatest(member) <= GREATEST + 1 for member in members))


class GivenTest(unittest.TestCase):
    def test_by_place_and_by_name(self):
        one, other = Standing(3, 4, 5), Standing(-3, -4, -7)
        self.assertEqual(road(other=other, one=one), (("b", 1),))
        self.assertEqual(road(one, other=other), (("b", 1),))
        self.assertEqual(steps(other=other, one=one), 1)
        self.assertEqual(descent(standing=other), (("b", 1),))
        self.assertEqual(freeing(standing=Standing(1, 2, 3)), (("b", 1),))

    def test_told_in_the_document(self):
        check_road(self, Standing(1, 2, -3), Standing(-1, -3, 2), 3)


if __name__ == "__main__":
    unittest.main()
