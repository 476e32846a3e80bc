"""`is_ringed`, `least`, `foot`, `free_ones`, `same_kind` against walks turn by turn [9] [10]."""

import random
import unittest

from arrowtrios.errors import TooGreat
from arrowtrios.kinds import foot, free_ones, is_ringed, least, same_kind
from arrowtrios.standings import Standing, turned
from tests.plain import GREATEST, loop
from tests.walks import foot_among, form_among, free_of, kinds_of_all

MOST, OVER = 4, 12


def told_of(numbers):
    """All that is told of the kind of these numbers."""
    standing = Standing(*numbers)
    return is_ringed(standing), least(standing), foot(standing), free_ones(standing)


class WalksTest(unittest.TestCase):
    @classmethod
    def setUpClass(cls):
        cls.kinds = kinds_of_all(MOST, OVER)

    def test_there_are_many_kinds_of_both_sorts(self):
        ringed = [kind for kind in self.kinds if not free_of(kind)]
        self.assertGreater(len(ringed), 10)
        self.assertGreater(len(self.kinds) - len(ringed), 50)

    def test_all_that_is_told_of_each_standing(self):
        forms = set()
        for kind in self.kinds:
            free, form = free_of(kind), form_among(kind)
            self.assertNotIn(form, forms)
            forms.add(form)
            expected = (not free, form, foot_among(kind), free)
            for numbers in kind:
                self.assertEqual(told_of(numbers), expected, numbers)

    def test_what_is_told_is_plain(self):
        for kind in self.kinds:
            standing = Standing(*min(kind))
            self.assertIs(type(is_ringed(standing)), bool)
            self.assertIs(type(foot(standing)), tuple)
            self.assertIs(type(free_ones(standing)), tuple)
            self.assertIs(type(least(standing)), tuple)
            self.assertTrue(1 <= len(foot(standing)) <= 36)
            self.assertEqual(list(foot(standing)), sorted(set(foot(standing))))

    def test_same_kind_of_all_pairs_of_kinds(self):
        draw = random.Random(1)
        firsts = [(Standing(*draw.choice(list(kind))), Standing(*draw.choice(list(kind)))) for kind in self.kinds]
        for at, (one, _) in enumerate(firsts):
            for other_at, (_, other) in enumerate(firsts):
                self.assertIs(same_kind(one, other), at == other_at)

    def test_same_kind_within_each_kind(self):
        for kind in self.kinds:
            first = Standing(*max(kind))
            for numbers in kind:
                self.assertIs(same_kind(first, Standing(*numbers)), True)
                self.assertIs(same_kind(Standing(*numbers), first), True)

    def test_behind_drawn_turns_nothing_changes(self):
        draw = random.Random(2)
        for kind in self.kinds:
            numbers = min(kind)
            expected = told_of(numbers)
            for _ in range(5):
                word = "".join(draw.choice("abc") for _ in range(draw.randint(1, 8)))
                self.assertEqual(told_of(loop(numbers, word)), expected)

    def test_far_up_nothing_changes(self):
        """Some hundred turns at two places, as far as numbers reach, also beside a tie of two arrows."""
        seen = 0
        for kind in self.kinds:
            numbers = max(kind)
            expected = told_of(numbers)
            rows = [(("ab", 150),), (("bc", 10 ** 100),), (("c", 1), ("ba", 10 ** 297)), (("cab", 2), ("ac", 30))]
            for row in rows + [((word, 10 ** 299),) for word in ("cb", "ac", "ca")]:
                try:
                    behind = turned(Standing(*numbers), row)
                except TooGreat:
                    continue
                self.assertEqual(told_of(behind.numbers), expected)
                self.assertIs(same_kind(behind, Standing(*numbers)), True)
                seen += 1
        self.assertGreater(seen, len(self.kinds))


class EdgesTest(unittest.TestCase):
    def test_the_path_of_the_document(self):
        free = [(-2, -1, 0), (-2, 1, 0), (2, -1, 0), (2, 1, 0), (0, -1, -2), (0, -1, 2), (0, 1, -2), (0, 1, 2)]
        rings = [(2, 1, 2), (-2, -1, -2)]
        for numbers in [(2, 3, 4), (-2, -3, -2), *free, *rings]:
            self.assertEqual(told_of(numbers), (
                False, ("free", (-2, -1, 0)), tuple(sorted(free + rings)), tuple(sorted(free))))

    def test_no_arrows_and_one_tie_alone(self):
        self.assertEqual(told_of((0, 0, 0)), (False, ("free", (0, 0, 0)), ((0, 0, 0),), ((0, 0, 0),)))
        for size in (1, 2, 3, 4, 1000, GREATEST):
            for tie in range(3):
                pair = tuple(tuple(sign * size if at == tie else 0 for at in range(3)) for sign in (-1, 1))
                for numbers in pair:
                    self.assertEqual(told_of(numbers), (False, ("free", pair[0]), pair, pair))

    def test_marks_of_4_and_near_it(self):
        for q in (2, 3, 6, 7, 10 ** 6, 10 ** 200, GREATEST - 1, GREATEST):
            both = ((-2, -q, -q), (2, q, q))
            for numbers in both:
                self.assertEqual(told_of(numbers), (True, ("ring", both[0]), both, ()))
            for other in [(q, 2, q), (q, q, 2)]:
                self.assertEqual(least(Standing(*other)), ("ring", tuple(-number for number in other)))
        for q in (3, 4, 7, 10 ** 6, 10 ** 200, GREATEST):
            # Marks of 5 and 8.
            self.assertIs(is_ringed(Standing(2, q, q - 1)), False)
            self.assertIs(is_ringed(Standing(2 - q, -q, -2)), False)
            self.assertEqual(len(foot(Standing(2, q, q - 1))), 10)
        self.assertIs(is_ringed(Standing(2, 2, 3)), False)
        self.assertIs(is_ringed(Standing(2, 2, 4)), False)
        self.assertIs(is_ringed(Standing(3, 3, 6)), True)
        self.assertEqual(least(Standing(3, 3, 7)), ("ring", (-3, -3, -2)))
        self.assertIs(is_ringed(Standing(3, 3, 8)), False)

    def test_marks_up_to_4_with_a_size_1(self):
        # The marks of these rings are at most 4, and yet they can be freed.
        for numbers in [(1, 1, 1), (1, 1, 2), (2, 1, 1), (-1, -2, -1), (1, 1, 3), (1, 2, 2)]:
            self.assertIs(is_ringed(Standing(*numbers)), False)
            self.assertNotEqual(free_ones(Standing(*numbers)), ())

    def test_free_standings_are_never_ringed(self):
        for numbers in [(3, 4, -5), (3, 3, 0), (0, 0, 5), (-3, 4, 5), (GREATEST, GREATEST, -GREATEST), (2, -2, 2)]:
            self.assertIs(is_ringed(Standing(*numbers)), False)

    def test_free_standings_with_great_sizes(self):
        p, q, r = GREATEST, GREATEST - 1, 2
        one_less, one_more = ((-p, q, r), (p, -q, r), (p, q, -r)), ((-p, -q, r), (-p, q, -r), (p, -q, -r))
        for three in (one_less, one_more):
            for numbers in three:
                self.assertEqual(told_of(numbers), (False, ("free", three[0]), three, three))
        self.assertIs(same_kind(Standing(p, q, -r), Standing(-p, -q, r)), False)
        four = ((-p, -q, 0), (-p, q, 0), (p, -q, 0), (p, q, 0))
        for numbers in four:
            self.assertEqual(told_of(numbers), (False, ("free", four[0]), four, four))

    def test_a_foot_with_sizes_beyond_what_a_standing_may_have(self):
        # A turn at b leads to a ring with a size 1, a member of the foot as if numbers had no bound.
        standing = Standing(1, GREATEST, -GREATEST)
        self.assertIn((-1, -GREATEST, -2 * GREATEST), foot(standing))
        self.assertEqual(len(foot(standing)), 10)
        self.assertEqual(foot(Standing(-1, GREATEST, -GREATEST)), foot(Standing(-1, -GREATEST, GREATEST)))

    def test_greatest_rings(self):
        least_ring = (GREATEST, GREATEST, GREATEST)
        self.assertEqual(told_of(least_ring), (True, ("ring", least_ring), (least_ring,), ()))
        self.assertIs(same_kind(Standing(*least_ring), Standing(*(-number for number in least_ring))), False)
        # One beside a tie of two arrows, 10 ** 300 - 2 turns above its foot.
        self.assertEqual(
            foot(Standing(2, GREATEST - 1, GREATEST)), foot(Standing(2, 3, 4)))
        self.assertEqual(least(Standing(2, GREATEST, 1 - GREATEST))[0], "free")

    def test_both_senses(self):
        self.assertIs(same_kind(Standing(2, 2, 2), Standing(-2, -2, -2)), True)
        self.assertIs(same_kind(Standing(3, 4, 6), Standing(-3, -4, -6)), True)
        self.assertIs(same_kind(Standing(3, 4, 5), Standing(-3, -4, -5)), False)
        self.assertIs(same_kind(Standing(3, 4, 5), Standing(-3, -4, -7)), True)
        self.assertIs(same_kind(Standing(3, 3, -5), Standing(3, -3, 5)), True)


if __name__ == "__main__":
    unittest.main()
