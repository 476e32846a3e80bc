"""`naming_between` and `own_namings` against walks turn by turn, and far up against sums by hand [11]."""

import itertools
import random
import unittest

from arrowtrios.errors import NotAStanding
from arrowtrios.kinds import same_kind
from arrowtrios.naming import naming_between, own_namings
from arrowtrios.standings import Standing, renamed, turned
from tests.plain import GREATEST, loop
from tests.test_given import NO_STANDINGS
from tests.walks import all_numbers, kinds_of_all

NAMINGS = sorted("".join(letters) for letters in itertools.permutations("abc"))

# Sizes of least rings, the least one first, with 2 * r < p * q.
UNLIKE = [(3, 4, 5), (3, 5, 7), (10 ** 30, 10 ** 30 + 1, 10 ** 30 + 2), (3, GREATEST - 1, GREATEST),
          (GREATEST - 2, GREATEST - 1, GREATEST), (10 ** 150, 10 ** 150 + 7, GREATEST // 3)]


def by_pairs(numbers, naming):
    """The numbers renamed, looked up by pairs of places."""
    x, y, z = numbers
    arrows = {"ab": x, "ba": -x, "bc": y, "cb": -y, "ca": z, "ac": -z}
    first, second, third = naming
    return (arrows[first + second], arrows[second + third], arrows[third + first])


def negated(numbers):
    """The numbers of the other sense."""
    return tuple(-number for number in numbers)


class WalksTest(unittest.TestCase):
    @classmethod
    def setUpClass(cls):
        cls.kinds = kinds_of_all(4, 12)
        cls.kind_of = {numbers: at for at, kind in enumerate(cls.kinds) for numbers in kind}

    def namings(self, one, other):
        """All namings with which the one, renamed, is met from the other, ascending."""
        return [naming for naming in NAMINGS if self.kind_of[by_pairs(one, naming)] == self.kind_of[other]]

    def check(self, one, other):
        found = self.namings(one, other)
        self.assertEqual(naming_between(Standing(*one), Standing(*other)), found[0] if found else None, (one, other))
        return bool(found)

    def test_the_walks_themselves(self):
        self.assertEqual([number for number in all_numbers(4) if number not in self.kind_of], [])
        self.assertEqual([len(kind) for kind in self.kinds if (2, 2, 2) in kind], [2])

    def test_all_pairs_of_small_standings(self):
        small = list(all_numbers(1)) + [(1, 1, 2), (2, 2, 2), (2, 3, 3), (2, 2, -2), (0, 2, 0), (2, 1, 0), (3, 3, 3)]
        alike = sum(self.check(one, other) for one in small for other in small)
        self.assertEqual(alike, 288)

    def test_drawn_pairs(self):
        draw = random.Random(31)
        first = [min(kind) for kind in self.kinds if max(map(abs, min(kind))) <= 4]
        second = [max(kind) for kind in self.kinds]
        for _ in range(2500):
            self.check(draw.choice(first), draw.choice(second))

    def test_renamed_ones_both_ways_and_behind_turns(self):
        draw = random.Random(32)
        alike = 0
        for numbers in draw.sample(list(all_numbers(4)), 300):
            naming = draw.choice(NAMINGS)
            there = by_pairs(numbers, naming)
            alike += self.check(numbers, there) + self.check(there, numbers)
            word = "".join(draw.choice("abc") for _ in range(draw.randint(1, 7)))
            behind = Standing(*loop(there, word))
            expected = self.namings(numbers, there)[0]
            self.assertEqual(naming_between(Standing(*numbers), behind), expected)
            self.assertEqual(naming_between(behind, Standing(*numbers)), self.namings(there, numbers)[0])
        self.assertEqual(alike, 600)

    def test_the_standing_renamed_is_of_the_other_kind(self):
        draw = random.Random(33)
        for numbers in draw.sample(list(all_numbers(4)), 100):
            one, other = Standing(*numbers), Standing(*by_pairs(numbers, draw.choice(NAMINGS)))
            self.assertTrue(same_kind(renamed(one, naming_between(one, other)), other))

    def test_own_namings_of_all_kinds(self):
        for kind in self.kinds:
            members = sorted(kind)
            expected = [naming for naming in NAMINGS if any(
                by_pairs(numbers, naming) in kind for numbers in members if max(map(abs, numbers)) <= 4)]
            for numbers in members[:12]:
                self.assertEqual(own_namings(Standing(*numbers)), tuple(expected), numbers)

    def test_own_namings_make_a_group(self):
        for kind in self.kinds:
            own = own_namings(Standing(*min(kind)))
            self.assertIs(type(own), tuple)
            self.assertEqual(own[0], "abc")
            self.assertEqual(list(own), sorted(set(own)))
            for first, second in itertools.product(own, repeat=2):
                self.assertIn("".join(first["abc".index(letter)] for letter in second), own)

    def test_renamed_ones_have_as_many_own_namings(self):
        for kind in self.kinds[::3]:
            numbers = min(kind)
            many = len(own_namings(Standing(*numbers)))
            for naming in NAMINGS:
                self.assertEqual(len(own_namings(Standing(*by_pairs(numbers, naming)))), many)


class SpecialTest(unittest.TestCase):
    def test_no_arrows_one_tie_and_two_ties(self):
        self.assertEqual(own_namings(Standing(0, 0, 0)), tuple(NAMINGS))
        for size in (1, 2, 3, 10 ** 30, GREATEST):
            self.assertEqual(own_namings(Standing(size, 0, 0)), ("abc", "bac"))
            self.assertEqual(own_namings(Standing(0, -size, 0)), ("abc", "acb"))
            self.assertEqual(naming_between(Standing(size, 0, 0), Standing(0, 0, -size)), "acb")
            self.assertEqual(naming_between(Standing(0, size, 0), Standing(0, 0, size)), "bac")
            self.assertEqual(naming_between(Standing(size, 0, 0), Standing(0, size, 0)), "cab")
            self.assertEqual(naming_between(Standing(0, size, 0), Standing(-size, 0, 0)), "bca")
        self.assertEqual(own_namings(Standing(GREATEST, GREATEST, 0)), ("abc", "cba"))
        self.assertEqual(own_namings(Standing(GREATEST, GREATEST - 1, 0)), ("abc",))
        self.assertIsNone(naming_between(Standing(1, 0, 0), Standing(2, 0, 0)))

    def test_ones_twos_and_equal_sizes(self):
        self.assertEqual(own_namings(Standing(1, 1, 0)), tuple(NAMINGS))
        self.assertEqual(own_namings(Standing(1, 1, 2)), tuple(NAMINGS))
        self.assertEqual(own_namings(Standing(2, 2, 2)), tuple(NAMINGS))
        self.assertEqual(own_namings(Standing(3, 3, 3)), ("abc", "bca", "cab"))
        self.assertEqual(own_namings(Standing(4, 4, 8)), ("abc", "cba"))
        self.assertEqual(own_namings(Standing(4, 4, 7)), ("abc",))
        self.assertEqual(own_namings(Standing(2, 2, -2)), ("abc", "bca", "cab"))

    def test_the_other_sense(self):
        self.assertEqual(naming_between(Standing(3, 3, 3), Standing(-3, -3, -3)), "acb")
        self.assertIsNone(naming_between(Standing(3, 4, 5), Standing(-3, -4, -5)))
        self.assertEqual(naming_between(Standing(3, 4, 5), Standing(-5, -4, -3)), "acb")
        self.assertEqual(naming_between(Standing(3, 4, 6), Standing(-3, -4, -6)), "abc")
        self.assertEqual(naming_between(Standing(2, 6, 6), Standing(-2, -6, -6)), "abc")
        self.assertEqual(naming_between(Standing(4, 4, 7), Standing(-4, -4, -7)), "cba")


class GreatTest(unittest.TestCase):
    """Kinds with great sizes, whose feet are worked out by hand."""

    def led(self, numbers):
        """The Standing with these numbers, and some to which turns lead from there."""
        behind = [loop(numbers, word) for word in ("b", "ba", "bac", "abcab", "cbcb")]
        return [Standing(*found) for found in [numbers, *behind] if max(abs(number) for number in found) <= GREATEST]

    def check(self, foot, own, ones=None):
        """Ask for all that is told of the kind with this foot, beside those with other names and the other sense."""
        numbers = foot[0]
        feet = [[by_pairs(member, naming) for member in members]
                for members in (foot, [negated(member) for member in foot]) for naming in NAMINGS]
        for one in ones or self.led(numbers):
            self.assertEqual(own_namings(one), own)
            for members in feet:
                found = [naming for naming in NAMINGS if by_pairs(numbers, naming) in members]
                for other in self.led(members[-1])[:3]:
                    self.assertEqual(naming_between(one, other), found[0] if found else None)

    def test_three_unlike_sizes(self):
        for sizes in UNLIKE:
            for numbers in itertools.permutations(sizes):
                self.check([numbers], ("abc",))

    def test_two_equal_sizes(self):
        for p, q in [(3, 4), (5, 4), (10 ** 30, 10 ** 30 + 1), (10 ** 299, GREATEST)]:
            for numbers in [(p, q, q), (q, p, q), (q, q, p)]:
                self.check([numbers], ("abc",))

    def test_both_senses_of_great_rings(self):
        for p, q in [(4, 5), (10 ** 30, 10 ** 31), (2 * 10 ** 149, 10 ** 150)]:
            for numbers in [(p, q, p * q // 2), (q, p * q // 2, p)]:
                self.check([numbers, negated(numbers)], ("abc",))
            equal = (p, p, p * p // 2)
            if p <= 10 ** 140:
                self.check([equal, negated(equal)], ("abc", "cba"))

    def test_three_equal_sizes(self):
        for size in (3, 10 ** 30, 10 ** 299, GREATEST):
            self.check([(size, size, size)], ("abc", "bca", "cab"))

    def test_a_tie_of_two_arrows_and_two_equal_sizes(self):
        for q in (3, 10 ** 30, 10 ** 299 + 7, GREATEST):
            for numbers, own in [((2, q, q), "bac"), ((q, 2, q), "acb"), ((q, q, 2), "cba")]:
                self.check([numbers, negated(numbers)], ("abc", own))

    def test_a_size_more_beside_it(self):
        # It leads evenly down to the ring (2, 1, 2), or to (2, 2, 1), by the remainder of q.
        for q in (3, 4, 10 ** 30, 10 ** 30 + 1, GREATEST - 1, GREATEST - 2):
            one = Standing(2, q, q + 1)
            foot = [(sign * 2, other, 0) for sign in (1, -1) for other in (1, -1)]
            foot += [(0, other, second) for other, second in itertools.product((1, -1), (2, -2))]
            foot += [(2, 1, 2), (-2, -1, -2)]
            if q % 2 == 1:
                self.check(foot, ("abc", "acb"), [one, Standing(q + 1, q, 2)])
            else:
                self.check([(x, z, y) for x, y, z in foot], ("abc", "cba"), [one, Standing(q, 2, q + 1)])
            self.assertIsNone(naming_between(one, Standing(2, q, q)))
            self.assertIsNone(naming_between(one, Standing(2, q - 2, q)))

    def test_free_standings_with_great_sizes(self):
        p, q, r = GREATEST, GREATEST - 1, 2
        self.check([(p, q, -r), (p, -q, r), (-p, q, r)], ("abc",))
        self.check([(p, p, -r), (p, -p, r), (-p, p, r)], ("abc",))
        self.check([(p, p, -p), (p, -p, p), (-p, p, p)], ("abc", "bca", "cab"))
        self.assertIsNone(naming_between(Standing(p, q, -r), Standing(-p, -q, r)))
        self.assertEqual(naming_between(Standing(p, p, -r), Standing(-p, -p, r)), "cba")

    def test_far_up(self):
        for row in [(("ab", 10 ** 99), ("c", 1)), (("ba", 10 ** 290),), (("ba", 10 ** 50), ("cab", 1), ("b", 1))]:
            one = turned(Standing(2, 3, 4), row)
            self.assertEqual(own_namings(one), ("abc", "acb"))
            # Those that lead to one kind go by pairs, one of them behind an own naming.
            first = {"abc": "abc", "acb": "abc", "bac": "bac", "bca": "bca", "cab": "bac", "cba": "bca"}
            for naming in NAMINGS:
                self.assertEqual(naming_between(one, renamed(one, naming)), first[naming])


class WrongTest(unittest.TestCase):
    def test_the_first_argument_that_is_no_standing(self):
        ring = Standing(3, 4, 5)
        for value in NO_STANDINGS:
            for call in (lambda: naming_between(value, ring), lambda: naming_between(value, None),
                         lambda: naming_between(ring, value), lambda: own_namings(value),
                         lambda: naming_between(other=(), one=value), lambda: own_namings(standing=value)):
                with self.assertRaises(NotAStanding) as caught:
                    call()
                self.assertIs(caught.exception.given, value)

    def test_by_place_and_by_name(self):
        ring, other = Standing(3, 4, 5), Standing(5, 3, 4)
        self.assertEqual(naming_between(one=ring, other=other), "cab")
        self.assertEqual(naming_between(other=ring, one=other), "bca")
        self.assertEqual(naming_between(ring, other=other), "cab")
        self.assertEqual(own_namings(standing=ring), ("abc",))
        self.assertEqual([ring.numbers, other.numbers], [(3, 4, 5), (5, 3, 4)])


if __name__ == "__main__":
    unittest.main()
