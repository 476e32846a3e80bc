"""`reach`: how many webs turns lead to, against walks web by web, and known ones [13]."""

import itertools
import random
import unittest
import unittest.mock

from arrowtrios import webs
from arrowtrios.errors import NotAWeb, TooMany
from arrowtrios.kinds import foot
from arrowtrios.lists import many_at
from arrowtrios.standings import Standing
from arrowtrios.webs import Web, reach
from tests.plain import NO_INTEGERS
from tests.webs import all_rows, rows_of, walk_of_webs

MOST = 10 ** 30


def told(rows):
    """What `reach` tells, or None for TooMany(300)."""
    try:
        return reach(Web(rows))
    except TooMany as error:
        assert error.limit == 300
        return None


def expected(rows):
    """How many webs a walk finds, None if there are more than 300 or a size is too great."""
    met = walk_of_webs(rows, MOST, 300)
    return None if met is None else len(met)


class WalksTest(unittest.TestCase):
    def test_two_and_three_places(self):
        for many in (2, 3):
            for rows in all_rows(many, 2):
                self.assertEqual(told(rows), expected(rows), rows)

    def test_four_places(self):
        rows = list(all_rows(4, 1)) + random.Random(51).sample(list(all_rows(4, 2)), 400)
        finite = 0
        for now in rows:
            found = expected(now)
            finite += found is not None
            self.assertEqual(told(now), found, now)
        self.assertGreater(finite, 300)

    def test_drawn_webs_of_five_places(self):
        draw = random.Random(52)
        for _ in range(300):
            rows = rows_of(5, [draw.choice([0, 0, 0, 1, -1, 2]) for _ in range(10)])
            self.assertEqual(told(rows), expected(rows), rows)

    def test_every_web_that_is_met_tells_the_same(self):
        for rows, many in [(rows_of(3, [1, 0, 1]), 14), (rows_of(3, [2, -1, 1]), 12),
                           (rows_of(4, [2, 0, 0, 0, 0, 3]), 4),
                           (rows_of(4, [1, 0, 0, 1, 1, 0]), 50), (rows_of(4, [1, 0, 0, 1, 0, 1]), 144)]:
            met = walk_of_webs(rows, MOST)
            self.assertEqual(len(met), many)
            for behind in sorted(met):
                self.assertEqual(reach(Web(behind)), len(met))


class KnownTest(unittest.TestCase):
    def test_places_of_which_none_has_arrows_to_two_others(self):
        self.assertEqual(reach(Web(((0, 0), (0, 0)))), 1)
        for size in (1, 2, 5, MOST):
            self.assertEqual(reach(Web(((0, size), (-size, 0)))), 2)
            self.assertEqual(reach(Web(rows_of(3, [0, size, 0]))), 2)
            self.assertEqual(reach(Web(rows_of(4, [size, 0, 0, 0, 0, -7]))), 4)
            self.assertEqual(reach(Web(rows_of(5, [0, 0, 0, size, 0, 3, 0, 0, 0, 0]))), 4)
        for many in (2, 3, 4, 5):
            self.assertEqual(reach(Web(((0,) * many,) * many)), 1)

    def test_the_line_of_three_places(self):
        self.assertEqual(reach(Web(((0, 1, 0), (-1, 0, 1), (0, -1, 0)))), 14)

    def test_many_but_not_too_many(self):
        self.assertEqual(reach(Web(rows_of(4, [1, 0, 0, 1, 0, 1]))), 144)
        self.assertEqual(reach(Web(rows_of(5, [0, 0, 0, -1, 0, 0, 1, 0, 1, -1]))), 270)
        for numbers in [(-1, -1, 0, 2, 0, 1, -1, -1, -1, 0), (0, 0, 1, -1, 0, 1, 1, -1, 1, 0)]:
            rows = rows_of(5, numbers)
            self.assertIn(len(walk_of_webs(rows, MOST)), (600, 720))
            self.assertIsNone(told(rows))

    def test_just_as_many_as_are_let(self):
        # No web was found with just 300, so it is asked with other limits.
        for rows, many in [(rows_of(3, [1, 0, 1]), 14), (rows_of(2, [3]), 2), (rows_of(4, [1, 0, 0, 1, 1, 0]), 50)]:
            with unittest.mock.patch("arrowtrios.webs.MOST_WEBS", many):
                self.assertEqual(reach(Web(rows)), many)
            with unittest.mock.patch("arrowtrios.webs.MOST_WEBS", many - 1):
                with self.assertRaises(TooMany) as caught:
                    reach(Web(rows))
                self.assertEqual(caught.exception.limit, many - 1)
        self.assertEqual(webs.MOST_WEBS, 300)

    def test_a_size_above_the_greatest(self):
        self.assertIsNone(told(rows_of(3, [10 ** 15, 0, 10 ** 15 + 1])))
        self.assertIsNone(told(rows_of(3, [MOST, 0, 2])))
        self.assertIsNone(told(rows_of(4, [10 ** 20, 0, 0, 10 ** 20, 0, 0])))
        # A turn leads from it to the size that is let at most, and a further one beyond that.
        self.assertIsNone(told(rows_of(3, [10 ** 15, 0, 10 ** 15])))
        # Only the difference comes.
        self.assertEqual(told(rows_of(3, [1, MOST, 1])), expected(rows_of(3, [1, MOST, 1])))
        self.assertEqual(told(rows_of(3, [1, -MOST, 1])), expected(rows_of(3, [1, -MOST, 1])))

    def test_three_places_as_the_standings_with_the_same_arrows(self):
        same = 0
        for x, y, z in itertools.product(range(-3, 4), repeat=3):
            standing = Standing(x, y, z)
            if many_at(standing, 1) == 0:
                same += 1
                self.assertEqual(reach(Web(rows_of(3, [x, -z, y]))), len(foot(standing)))
            else:
                self.assertIsNone(told(rows_of(3, [x, -z, y])))
        self.assertGreater(same, 40)


class GivenTest(unittest.TestCase):
    def test_what_is_no_web(self):
        web = Web(((0, 1), (-1, 0)))
        for value in (*NO_INTEGERS, 0, web.rows, list(web.rows), [web], (web,), Web, Standing(1, 1, 0)):
            with self.assertRaises(NotAWeb) as caught:
                reach(value)
            self.assertIs(caught.exception.given, value)

    def test_by_name_and_nothing_is_changed(self):
        web = Web(((0, 1, 0), (-1, 0, 1), (0, -1, 0)))
        self.assertEqual([reach(web=web), reach(web), reach(web)], [14, 14, 14])
        self.assertEqual(web.rows, ((0, 1, 0), (-1, 0, 1), (0, -1, 0)))


if __name__ == "__main__":
    unittest.main()
