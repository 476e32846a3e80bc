"""What is told of a standing goes with the names of its places, and with the sense of all arrows [11]."""

import itertools
import random
import unittest

from arrowtrios.errors import TooMany
from arrowtrios.kinds import foot, free_ones, is_ringed, least, same_kind
from arrowtrios.lists import least_above, many_at, standings_to
from arrowtrios.remainders import at_ties, remainders
from arrowtrios.roads import descent, freeing, steps
from arrowtrios.standings import NAMINGS, Standing, length, renamed
from tests.plain import GREATEST
from tests.walks import all_numbers

STANDINGS = [
    (3, 4, 5), (3, 4, 6), (2, 6, 6), (2, 2, 2), (2, 3, 4), (3, 3, 8), (1, 1, 0), (1, 2, -5), (0, 3, 0), (3, -4, 5),
    (2, 10 ** 30, 10 ** 30 + 1), (GREATEST, 2, GREATEST - 1), (GREATEST, GREATEST, -GREATEST), (3, 4, 7), (17, 7, 3),
    (1, GREATEST, -GREATEST), (4, 5, 6), (0, 0, 0),
]


def in_all_names_and_signs(numbers):
    """Pairs of a function that names triples anew or turns their signs, and the Standing behind it."""
    for naming in NAMINGS:
        for sign in (1, -1):
            def moved(triple, naming=naming, sign=sign):
                x, y, z = triple
                arrows = {"ab": x, "ba": -x, "bc": y, "cb": -y, "ca": z, "ac": -z}
                first, second, third = naming
                return tuple(sign * arrows[pair] for pair in (first + second, second + third, third + first))
            yield moved, Standing(*moved(numbers))


def all_moved(triples, moved):
    """The ascending tuple of triples that are moved."""
    return tuple(sorted(moved(triple) for triple in triples))


def listed(standing, bound):
    """`standings_to`, or what it says when there are too many."""
    try:
        return standings_to(standing, bound)
    except TooMany:
        return "too many"


class NamesAndSignsTest(unittest.TestCase):
    def test_kinds_feet_and_marks(self):
        for numbers in STANDINGS:
            standing = Standing(*numbers)
            for moved, other in in_all_names_and_signs(numbers):
                self.assertEqual(other.mark, standing.mark)
                self.assertIs(is_ringed(other), is_ringed(standing))
                self.assertEqual(foot(other), all_moved(foot(standing), moved))
                self.assertEqual(free_ones(other), all_moved(free_ones(standing), moved))
                self.assertEqual(least(other)[0], least(standing)[0])
                members = free_ones(other) or foot(other)
                self.assertEqual(least(other)[1], members[0])

    def test_renamed_as_the_module_of_standings_does_it(self):
        for numbers in STANDINGS[:12]:
            for naming in NAMINGS:
                for member in foot(Standing(*numbers)):
                    other = renamed(Standing(*member), naming)
                    self.assertIn(other.numbers, foot(renamed(Standing(*numbers), naming)))

    def test_pairs_of_one_kind_and_of_unlike_ones(self):
        draw = random.Random(10)
        small = list(all_numbers(2))
        for _ in range(300):
            one, other = draw.choice(small), draw.choice(small)
            expected = same_kind(Standing(*one), Standing(*other)), steps(Standing(*one), Standing(*other))
            for moved, standing in in_all_names_and_signs(one):
                further = Standing(*moved(other))
                self.assertEqual((same_kind(standing, further), steps(standing, further)), expected)

    def test_as_many_turns(self):
        for numbers in STANDINGS:
            standing = Standing(*numbers)
            free = freeing(standing)
            for _, other in in_all_names_and_signs(numbers):
                self.assertEqual(length(descent(other)), length(descent(standing)))
                if free is None:
                    self.assertIsNone(freeing(other))
                else:
                    self.assertEqual(length(freeing(other)), length(free))

    def test_lists(self):
        for numbers in STANDINGS:
            standing = Standing(*numbers)
            for moved, other in in_all_names_and_signs(numbers):
                for bound in (0, 1, 3, 7, 40, 100):
                    found = listed(standing, bound)
                    self.assertEqual(listed(other, bound), found if found == "too many" else all_moved(found, moved))
                    if found != "too many":
                        self.assertEqual(least_above(other, bound), least_above(standing, bound))
                self.assertEqual([many_at(other, turns) for turns in (0, 1, 5)],
                                 [many_at(standing, turns) for turns in (0, 1, 5)])

    def test_remainders(self):
        for numbers in STANDINGS:
            standing = Standing(*numbers)
            for moved, other in in_all_names_and_signs(numbers):
                for number in (2, 5, 12):
                    there = remainders(standing, number)
                    # The sizes move as the numbers do, without the signs.
                    expected = {tuple(abs(rest) for rest in moved(rests)) for rests in there}
                    self.assertEqual(remainders(other, number), tuple(sorted(expected)))

    def test_remainders_at_the_ties(self):
        for numbers, number in itertools.product([(3, 4, 5), (2, 5, 5), (0, 3, 0), (2, -4, 9), (4, 8, 6)], (4, 6)):
            ties = at_ties(Standing(*numbers), number)
            for moved, other in in_all_names_and_signs(numbers):
                places = [abs(place) - 1 for place in moved((1, 2, 3))]
                self.assertEqual(at_ties(other, number), tuple(ties[place] for place in places))

    def test_all_signs_turned_alone(self):
        for numbers in all_numbers(3):
            standing, other = Standing(*numbers), Standing(*(-number for number in numbers))
            self.assertEqual(sorted(foot(other)), sorted(tuple(-n for n in member) for member in foot(standing)))
            self.assertEqual(remainders(other, 5), remainders(standing, 5))


if __name__ == "__main__":
    unittest.main()
