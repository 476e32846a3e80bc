"""`certify_ring`, `certify_kind`, `certify_never`: claims with the numbers given, and papers that are accepted [15]."""

import itertools
import random
import unittest

from arrowtrios.certificates import certify_kind, certify_never, certify_ring
from arrowtrios.checker import accepts
from arrowtrios.errors import InvalidNumber, InvalidRemainders, NotAStanding
from arrowtrios.standings import Standing, length, turned
from tests.papers import is_row, plainly_accepts
from tests.plain import GREATEST, NO_INTEGERS, loop
from tests.roads import grown
from tests.test_given import NO_NUMBERS, NO_STANDINGS
from tests.walks import all_numbers, foot_by_walk, goes_round, is_least_ring, left_in_kind, plain_mark

RING, PATH = Standing(3, 4, 5), Standing(2, 3, 4)

OPPOSITE = {"ringed": "freed", "freed": "ringed", "kind": "parted", "parted": "kind"}

HALF = (GREATEST - 4) // 2

GREAT = [
    (GREATEST, GREATEST, GREATEST), (-GREATEST, -GREATEST, 1 - GREATEST), (GREATEST, GREATEST, -GREATEST),
    (GREATEST, 0, 0),
    (GREATEST, -GREATEST, 0), (1, GREATEST, -GREATEST), (1, GREATEST, GREATEST), (-1, -GREATEST, 1 - GREATEST),
    (2, GREATEST, GREATEST),
    (2, GREATEST - 1, GREATEST), (GREATEST, 2, GREATEST - 1), (-GREATEST, 1 - GREATEST, -2),
    (2, GREATEST // 2, GREATEST),
    (3, GREATEST, GREATEST), (10 ** 150, 10 ** 150, GREATEST), (10 ** 150, 10 ** 150, GREATEST // 2), (1, 1, GREATEST),
    (10 ** 29, 10 ** 30, 10 ** 59 // 2), (3, 4, GREATEST), (10 ** 100, 10 ** 200, GREATEST - 10 ** 50),
    (2, 2, GREATEST),
    (GREATEST, 0, -1), (2, 10 ** 160, 10 ** 160 + 7),
]


def behind(numbers, *row):
    """The numbers behind a row of turns."""
    return turned(Standing(*numbers), row).numbers


def far_ones():
    """Standings as far up as numbers reach, and far up beside a tie of two arrows."""
    found = [grown(Standing(*numbers), word)[0].numbers for numbers in [(3, 3, 3), (3, 4, 5), (3, 3, 8), (2, 3, 4)]
             for word in ("ac", "abc", "bcba")]
    return found + [
        behind((2, 3, 4), ("ab", HALF)), behind((2, 3, 4), ("ab", 10 ** 140), ("c", 1)),
        behind((2, 3, 5), ("ba", 10 ** 99), ("c", 1)),
        behind((2, 2, 7), ("cb", 10 ** 290))]


class CertificateTest(unittest.TestCase):
    def check(self, told, word, *rest):
        """Ask for a claim and a paper that is accepted for it, and not for the opposite one; return the paper."""
        self.assertIs(type(told), tuple)
        claim, paper = told
        self.assertEqual(claim, (word, *rest))
        self.assertIs(accepts(claim, paper), True)
        if word in OPPOSITE:
            self.assertIs(accepts((OPPOSITE[word], *rest), paper), False)
        for row in (paper if word in ("parted", "never") else (paper,))[:1 if word == "never" else 2]:
            self.assertTrue(is_row(row))
        return paper

    def test_rings_of_small_standings(self):
        for numbers in all_numbers(4):
            ringed = all(map(is_least_ring, foot_by_walk(numbers)))
            paper = self.check(certify_ring(Standing(*numbers)), "ringed" if ringed else "freed", numbers)
            self.assertTrue(plainly_accepts(("ringed" if ringed else "freed", numbers), paper))

    def test_kinds_of_small_standings(self):
        draw = random.Random(91)
        small = list(all_numbers(3))
        words = {"kind": 0, "parted": 0}
        for _ in range(1500):
            one = draw.choice(small)
            other = draw.choice([draw.choice(small), loop(one, "".join(draw.choice("abc") for _ in range(4)))])
            word = "kind" if foot_by_walk(one) == foot_by_walk(other) else "parted"
            words[word] += 1
            paper = self.check(certify_kind(Standing(*one), Standing(*other)), word, one, other)
            self.assertTrue(plainly_accepts((word, one, other), paper))
        self.assertGreater(min(words.values()), 500)

    def test_remainders_of_small_standings(self):
        draw = random.Random(92)
        outcomes = {True: 0, False: 0}
        for numbers in draw.sample(list(all_numbers(4)), 120):
            for number in (2, 3, draw.randint(4, 12)):
                left = left_in_kind(numbers, number)
                for rests in draw.sample(list(itertools.product(range(number), repeat=3)), 6):
                    told = certify_never(Standing(*numbers), number, rests)
                    outcomes[told is None] += 1
                    self.assertEqual(told is None, rests in left)
                    if told is not None:
                        paper = self.check(told, "never", numbers, number, rests)
                        self.assertTrue(plainly_accepts(told[0], paper))
                        for other in sorted(left)[:3]:
                            self.assertIs(accepts(("never", numbers, number, other), paper), False)
        self.assertGreater(min(outcomes.values()), 300)

    def test_both_answers_of_the_document(self):
        self.check(certify_ring(RING), "ringed", (3, 4, 5))
        self.assertEqual(length(self.check(certify_ring(PATH), "freed", (2, 3, 4))), 3)
        self.check(certify_kind(RING, Standing(3, 17, 7)), "kind", (3, 4, 5), (3, 17, 7))
        self.check(certify_kind(RING, PATH), "parted", (3, 4, 5), (2, 3, 4))
        self.check(certify_never(RING, 2, (0, 0, 0)), "never", (3, 4, 5), 2, (0, 0, 0))
        self.assertIsNone(certify_never(RING, 2, (1, 0, 1)))

    def test_great_standings(self):
        words = set()
        for numbers in GREAT + far_ones():
            # The mark tells whether the kind is ringed, as [9] says.
            ringed = goes_round(numbers) and min(map(abs, numbers)) >= 2 and plain_mark(numbers) <= 4
            self.check(certify_ring(Standing(*numbers)), "ringed" if ringed else "freed", numbers)
            words.add(ringed)
            for number in (2, 7, 12):
                for rests in [(0, 0, 0), (1, 0, 1), (1, 1, 1), (number - 1, 0, 1), (0, number // 2, 0)]:
                    found = certify_never(Standing(*numbers), number, rests)
                    if found is not None:
                        words.add("never")
                        self.check(found, "never", numbers, number, rests)
        self.assertEqual(words, {True, False, "never"})

    def test_remainders_of_great_rings(self):
        for numbers in [(GREATEST, GREATEST, GREATEST), (2, GREATEST, GREATEST), (GREATEST, GREATEST, -GREATEST),
                        (1, GREATEST, -GREATEST),
                        (GREATEST, GREATEST - 1, GREATEST - 2), (GREATEST, 0, -1)]:
            for number in (2, 3, 4):
                left = left_in_kind(numbers, number)
                for rests in itertools.product(range(number), repeat=3):
                    found = certify_never(Standing(*numbers), number, rests)
                    self.assertEqual(found is None, rests in left)
                    if found is not None:
                        self.check(found, "never", numbers, number, rests)

    def test_kinds_of_great_standings(self):
        ones = GREAT + far_ones()
        seen = {"kind": 0, "parted": 0}
        for one, other in itertools.product(ones, repeat=2):
            told = certify_kind(Standing(*one), Standing(*other))
            word = told[0][0]
            seen[word] += 1
            self.check(told, word, one, other)
            if one == other:
                self.assertEqual(told, (("kind", one, one), ()))
        self.assertGreater(min(seen.values()), len(ones))

    def test_great_ones_of_one_kind(self):
        for numbers, row in [((2, 3, 4), (("ab", HALF),)), ((2, 3, 4), (("ba", 10 ** 60), ("c", 1))),
                             ((3, 4, 5), (("bc", 200),)),
                             ((3, 4, 5), (("ab", 300), ("a", 1))), ((2, GREATEST, GREATEST), (("a", 1),)),
                             ((1, GREATEST, -GREATEST), (("a", 1),)),
                             ((GREATEST, GREATEST, -GREATEST), (("abcab", 1),))]:
            one = Standing(*numbers)
            other = turned(one, row)
            self.assertNotEqual(one.numbers, other.numbers)
            self.check(certify_kind(one, other), "kind", one.numbers, other.numbers)
            self.check(certify_kind(other, one), "kind", other.numbers, one.numbers)


class WrongTest(unittest.TestCase):
    def test_no_standings(self):
        for value in NO_STANDINGS:
            for call in (lambda: certify_ring(value), lambda: certify_ring(standing=value),
                         lambda: certify_kind(value, RING),
                         lambda: certify_kind(value, None), lambda: certify_kind(RING, value),
                         lambda: certify_kind(other=None, one=value),
                         lambda: certify_never(value, 2, (0, 0, 0)), lambda: certify_never(value, 1, None),
                         lambda: certify_never(rests=None, number=None, standing=value)):
                with self.assertRaises(NotAStanding) as caught:
                    call()
                self.assertIs(caught.exception.given, value)

    def test_no_numbers(self):
        for value in NO_NUMBERS:
            for rests in ((0, 0, 0), None, (0, 0, 99)):
                with self.assertRaises(InvalidNumber) as caught:
                    certify_never(RING, value, rests)
                self.assertIs(caught.exception.given, value)

    def test_no_remainders(self):
        for number in (2, 5, 12):
            for rests, index in [((0, 0, number), 2), ((0, number, 0), 1), ((-1, 0, 0), 0), ((0, 0, 0, 0), 3),
                                 ((0, True, 0), 1),
                                 ((0, 0, None), 2), ((0, 0), None), ((), None), ([0, 0, 0], None), (None, None),
                                 ("000", None),
                                 ((number, 0), None), ((0, number, 0, 0), 1), ((0, 0, 0, number), 3)]:
                for call in (lambda: certify_never(RING, number, rests),
                             lambda: certify_never(rests=rests, standing=RING, number=number)):
                    with self.assertRaises(InvalidRemainders) as caught:
                        call()
                    self.assertEqual(caught.exception.index, index)
        for value in NO_INTEGERS:
            with self.assertRaises(InvalidRemainders) as caught:
                certify_never(RING, 2, (value, 0, 0))
            self.assertEqual(caught.exception.index, 0)

    def test_by_name(self):
        self.assertEqual(certify_ring(standing=RING), certify_ring(RING))
        self.assertEqual(certify_kind(other=PATH, one=RING), certify_kind(RING, PATH))
        self.assertEqual(certify_never(rests=(0, 0, 0), number=2, standing=RING), certify_never(RING, 2, (0, 0, 0)))


if __name__ == "__main__":
    unittest.main()
