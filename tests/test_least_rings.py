"""Least rings: both senses, and all those with a mark [9]."""

import itertools
import unittest

from arrowtrios.errors import InvalidNumber
from arrowtrios.kinds import foot, is_ringed, least, rings_of_mark
from arrowtrios.standings import Standing
from tests.plain import NO_INTEGERS
from tests.walks import is_least_ring, plain_mark, walk

LEAST_TRIED = -700


def tried():
    """All least rings with marks from the least one tried to 3, by trying: a dict of marks.

    With 2 * r <= p * q and p >= 3 the mark is at most p * p - (p - 2) * q * q.
    """
    found = {}
    for p in range(1, 30):
        for q in range(p, 60):
            for r in range(q, p * q // 2 + 1):
                if plain_mark((p, q, r)) >= LEAST_TRIED:
                    found.setdefault(plain_mark((p, q, r)), []).append((p, q, r))
    return found


class SensesTest(unittest.TestCase):
    def test_both_senses_just_if_twice_the_greatest_is_the_product(self):
        seen = {True: 0, False: 0}
        for p, q, r in itertools.product(range(1, 9), range(1, 9), range(1, 33)):
            low, middle, great = sorted((p, q, r))
            if 2 * great > low * middle:
                continue
            both = 2 * great == low * middle
            other = (-p, -q, -r)
            self.assertEqual(least(Standing(p, q, r)), ("ring", other if both else (p, q, r)))
            self.assertEqual(least(Standing(*other)), ("ring", other))
            self.assertEqual(foot(Standing(p, q, r)), (other, (p, q, r)) if both else ((p, q, r),))
            self.assertEqual(foot(Standing(*other)), (other, (p, q, r)) if both else (other,))
            seen[both] += 1
        self.assertGreater(min(seen.values()), 20)

    def test_one_least_ring_of_each_sense_at_most_in_walks(self):
        for numbers in [(3, 3, 3), (3, 4, 5), (3, 4, 6), (4, 4, 4), (4, 5, 10), (2, 7, 7), (2, 2, 2), (5, 5, 12)]:
            rings = {member for member in walk(numbers, 200) if is_least_ring(member)}
            p, q, r = numbers
            self.assertEqual(rings, {numbers, (-p, -q, -r)} if 2 * r == p * q else {numbers})
            self.assertEqual(foot(Standing(*numbers)), tuple(sorted(rings)))


class RingsOfMarkTest(unittest.TestCase):
    def test_against_trying(self):
        found = tried()
        self.assertEqual(max(found), 4)
        self.assertGreater(max(len(rings) for rings in found.values()), 4)
        for mark in range(LEAST_TRIED, 4):
            self.assertEqual(rings_of_mark(mark), tuple(sorted(found.get(mark, []))), mark)

    def test_some_marks(self):
        self.assertEqual([rings_of_mark(mark) for mark in (3, 2, 1, -1)], [(), (), (), ()])
        self.assertEqual([rings_of_mark(0), rings_of_mark(-2)], [((3, 3, 3),), ((3, 3, 4),)])
        self.assertEqual(rings_of_mark(-10), ((3, 4, 5),))
        # Twice the greatest size is the product.
        self.assertEqual(rings_of_mark(-11), ((3, 4, 6),))
        self.assertIn((4, 4, 8), rings_of_mark(-32))

    def test_great_ones(self):
        for mark in (-10 ** 6, 1 - 10 ** 6, -999998, -500000, -123456, -98765, -10 ** 4):
            rings = rings_of_mark(mark)
            self.assertEqual(list(rings), sorted(set(rings)))
            for p, q, r in rings:
                self.assertTrue(3 <= p <= q <= r and 2 * r <= p * q)
                self.assertEqual(plain_mark((p, q, r)), mark)
                self.assertTrue(is_ringed(Standing(p, q, r)))

    def test_great_ones_are_found(self):
        """Each least ring with a mark in reach is told for its mark, also p, q, r that are great or all alike."""
        rings = [(3, 1000, 1000), (3, 1000, 1500), (3, 800, 900), (101, 101, 101), (100, 101, 102), (50, 144, 144), (3, 500, 750)]
        rings += [(7, q, r) for q in range(100, 130, 7) for r in range(q, q + 300, 37)]
        reached = 0
        for ring in rings:
            if is_least_ring(ring) and plain_mark(ring) >= -10 ** 6:
                self.assertIn(ring, rings_of_mark(plain_mark(ring)))
                reached += 1
        self.assertGreater(reached, 20)
        self.assertEqual(plain_mark((101, 101, 101)), -999698)

    def test_all_of_one_great_mark(self):
        # For each p and q the mark falls as r grows up to the half of p * q, so each r can be sought by halving.
        mark = -100002
        found = []
        for p in range(3, 60):
            for q in range(p, 330):
                low, high = q, p * q // 2
                while low < high:
                    middle = (low + high) // 2
                    low, high = (low, middle) if plain_mark((p, q, middle)) <= mark else (middle + 1, high)
                if plain_mark((p, q, low)) == mark and is_least_ring((p, q, low)):
                    found.append((p, q, low))
        self.assertEqual(rings_of_mark(mark), tuple(found))

    def test_given_by_name(self):
        self.assertEqual(rings_of_mark(mark=-2), ((3, 3, 4),))

    def test_what_is_no_mark_of_these(self):
        for mark in (4, 5, 100, -10 ** 6 - 1, -10 ** 300, 10 ** 300, *NO_INTEGERS):
            with self.subTest(mark=mark):
                with self.assertRaises(InvalidNumber) as caught:
                    rings_of_mark(mark)
                self.assertIs(caught.exception.given, mark)


if __name__ == "__main__":
    unittest.main()
