"""`remainders`, `leaves` and `at_ties`, against walks over standings themselves [12]."""

import itertools
import random
import unittest

from arrowtrios.errors import InvalidRemainders
from arrowtrios.kinds import foot
from arrowtrios.remainders import at_ties, leaves, remainders
from arrowtrios.standings import Standing
from tests.plain import GREATEST, NO_INTEGERS, turn
from tests.roads import behind, grown
from tests.walks import levels

NUMBERS = range(2, 13)

# One standing of kinds of all forms.
KINDS = (
    (3, 3, 3), (3, 4, 5), (3, 4, 6), (6, 6, 6), (2, 2, 2), (2, 6, 6), (-2, -7, -7), (2, 3, 4), (2, 3, 5), (1, 1, 1),
    (1, 1, 0), (1, 2, 3), (1, 5, -9), (0, 0, 0), (0, 3, 0), (4, 0, 7), (3, 3, -5), (2, -4, 9), (5, 10, 24), (8, 12, 20),
)


def left(numbers, number):
    """What the sizes of a standing leave."""
    return tuple(abs(size) % number for size in numbers)


def left_by_walk(numbers, number):
    """What the standings of the kind leave: a walk over them away from the foot.

    A standing beyond which the walk has already led from one with the same remainders,
    by a turn at the same place, adds nothing, since sizes x, y, z give x * y - z.
    """
    told, seen = set(), set()
    latest = [(member, "") for member in foot(Standing(*numbers))]
    foot_itself = {member for member, _ in latest}
    while latest:
        further = []
        for now, last in latest:
            told.add(left(now, number))
            for letter in "abc":
                above = turn(now, letter)
                if letter == last or above in foot_itself or (letter, left(above, number)) in seen:
                    continue
                seen.add((letter, left(above, number)))
                further.append((above, letter))
        latest = further
    return tuple(sorted(told))


class WalksTest(unittest.TestCase):
    def test_all_numbers_for_kinds_of_all_forms(self):
        for numbers in KINDS:
            for number in NUMBERS:
                found = remainders(Standing(*numbers), number)
                self.assertIs(type(found), tuple)
                self.assertEqual(found, left_by_walk(numbers, number), (numbers, number))

    def test_standings_near_the_foot_leave_what_is_told(self):
        for numbers in KINDS:
            near = [member for level in levels(foot(Standing(*numbers)), 5) for member in level]
            for number in NUMBERS:
                found = remainders(Standing(*numbers), number)
                self.assertEqual({left(member, number) for member in near} - set(found), set())

    def test_drawn_ways_up_leave_what_is_told(self):
        draw = random.Random(8)
        for numbers in KINDS:
            for number in NUMBERS:
                found = set(remainders(Standing(*numbers), number))
                now = numbers
                for _ in range(12):
                    now = turn(now, draw.choice("abc"))
                    self.assertIn(left(now, number), found)

    def test_only_what_some_standing_leaves(self):
        """Near the foot all come that ever come, for small numbers."""
        for numbers in KINDS:
            near = [member for level in levels(foot(Standing(*numbers)), 9) for member in level]
            for number in (2, 3):
                came = {left(member, number) for member in near}
                self.assertEqual(remainders(Standing(*numbers), number), tuple(sorted(came)))


class KindTest(unittest.TestCase):
    def test_the_same_for_all_standings_of_a_kind(self):
        draw = random.Random(9)
        for numbers in KINDS:
            for number in (2, 5, 9, 12):
                expected = remainders(Standing(*numbers), number)
                word = "".join(draw.choice("abc") for _ in range(10))
                self.assertEqual(remainders(behind(numbers, (word, 1)), number), expected)

    def test_the_same_far_up_beside_a_tie_of_two_arrows(self):
        for word in ("ab", "ba"):
            for numbers in [(2, 3, 4), (2, 3, 5), (2, 2, 7), (-2, -4, -5)]:
                for number in NUMBERS:
                    far = behind(numbers, (word, 10 ** 290 + 7))
                    self.assertEqual(remainders(far, number), remainders(Standing(*numbers), number))

    def test_the_same_as_far_up_as_numbers_reach(self):
        for numbers in [(3, 3, 3), (3, 4, 5), (3, 3, 8)]:
            for word in ("ab", "abc"):
                far, _ = grown(Standing(*numbers), word)
                for number in (2, 7, 12):
                    self.assertEqual(remainders(far, number), remainders(Standing(*numbers), number))

    def test_sizes_of_just_the_greatest(self):
        for numbers in [(GREATEST, GREATEST, -GREATEST), (1, GREATEST, -GREATEST), (2, GREATEST, GREATEST),
                        (GREATEST, GREATEST, GREATEST), (2, GREATEST - 1, GREATEST)]:
            for number in NUMBERS:
                self.assertEqual(remainders(Standing(*numbers), number), left_by_walk(numbers, number))

    def test_finite_kinds(self):
        for number in NUMBERS:
            self.assertEqual(remainders(Standing(2, 2, 2), number), (left((2, 2, 2), number),))
            self.assertEqual(remainders(Standing(0, 7, 0), number), (left((0, 7, 0), number),))


class LeavesTest(unittest.TestCase):
    def test_all_triples(self):
        for numbers in KINDS[::3]:
            for number in (2, 3, 4):
                found = remainders(Standing(*numbers), number)
                for rests in itertools.product(range(number), repeat=3):
                    self.assertIs(leaves(Standing(*numbers), number, rests), rests in found)

    def test_the_edges_of_twelve(self):
        self.assertIs(leaves(Standing(12, 24, 36), 12, (0, 0, 0)), True)
        self.assertIs(leaves(Standing(12, 24, 36), 12, (11, 11, 11)), False)
        self.assertIs(leaves(Standing(11, 23, -35), 12, (11, 11, 11)), True)

    def test_at_ties(self):
        for numbers in KINDS:
            for number in NUMBERS:
                found = remainders(Standing(*numbers), number)
                expected = tuple(tuple(sorted({rests[tie] for rests in found})) for tie in range(3))
                self.assertEqual(at_ties(Standing(*numbers), number), expected)
                self.assertEqual([type(told) for told in at_ties(Standing(*numbers), number)], [tuple] * 3)

    def test_told_in_the_document(self):
        ring = Standing(3, 4, 5)
        self.assertEqual(remainders(Standing(3, 3, 3), 3), ((0, 0, 0),))
        self.assertEqual(remainders(Standing(2, 2, 2), 5), ((2, 2, 2),))
        self.assertIs(leaves(ring, 2, (0, 0, 0)), False)
        self.assertEqual(at_ties(ring, 2), ((0, 1), (0, 1), (0, 1)))


class WrongRemaindersTest(unittest.TestCase):
    def index_of(self, rests, number):
        with self.assertRaises(InvalidRemainders) as caught:
            leaves(Standing(3, 4, 5), number, rests)
        return caught.exception.index

    def test_no_tuple(self):
        for rests in (None, True, 0, 7, "012", b"012", [], [0, 0, 0], {}, {0: 0, 1: 1, 2: 2}, set(), object()):
            for number in NUMBERS:
                self.assertIsNone(self.index_of(rests, number))

    def test_fewer_than_three_whatever_they_are(self):
        for rests in [(), (0,), (0, 1), (-1,), (None, None), ("a", 0), (99, 99), ((0, 0, 0),), ((0, 0, 0), 1)]:
            self.assertIsNone(self.index_of(rests, 2))

    def test_the_first_that_is_not_right(self):
        for number in NUMBERS:
            wrong = [-1, number, number + 1, -10 ** 300, 10 ** 300, *NO_INTEGERS]
            for value in wrong:
                self.assertEqual(self.index_of((value, 0, 0), number), 0)
                self.assertEqual(self.index_of((0, value, 0), number), 1)
                self.assertEqual(self.index_of((number - 1, number - 1, value), number), 2)
                self.assertEqual(self.index_of((value, value, value), number), 0)
                self.assertEqual(self.index_of((0, value, value, value), number), 1)

    def test_a_fourth_one(self):
        for fourth in (0, 1, -1, 12, None, True, "a", ()):
            self.assertEqual(self.index_of((0, 1, 0, fourth), 2), 3)
            self.assertEqual(self.index_of((0, 1, 0, fourth, fourth, 5), 2), 3)
            self.assertEqual(self.index_of((0, 1, -1, fourth), 2), 2)
            self.assertEqual(self.index_of((2, 1, -1, fourth), 2), 0)

    def test_what_is_right_by_one_number_is_not_by_another_one(self):
        self.assertIs(type(leaves(Standing(3, 4, 5), 6, (5, 5, 5))), bool)
        self.assertEqual(self.index_of((4, 5, 5), 5), 1)


if __name__ == "__main__":
    unittest.main()
