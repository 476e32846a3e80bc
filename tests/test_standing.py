"""The class Standing: places, numbers, sizes, ring, mark, equality, wrong numbers [3] [4] [6]."""

import itertools
import unittest

from arrowtrios.errors import InvalidNumbers
from arrowtrios.standings import Standing
from tests.plain import GREATEST, NO_INTEGERS


class OtherTriple:
    """A value of another class that looks like a standing."""

    numbers = (3, 4, 5)
    _numbers = (3, 4, 5)


class StandingTest(unittest.TestCase):
    def wrong(self, index, *numbers):
        with self.assertRaises(InvalidNumbers) as caught:
            Standing(*numbers)
        self.assertEqual(caught.exception.index, index)
        self.assertIs(type(caught.exception.index), int)

    def test_numbers_and_sizes(self):
        for numbers in [(3, 4, 5), (-3, -4, -5), (3, -4, 5), (0, 0, 0), (0, -2, 7), (GREATEST, -GREATEST, 1)]:
            with self.subTest(numbers=numbers):
                standing = Standing(*numbers)
                self.assertEqual(standing.numbers, numbers)
                self.assertIs(type(standing.numbers), tuple)
                self.assertEqual(standing.sizes, tuple(abs(number) for number in numbers))
                self.assertIs(type(standing.sizes), tuple)

    def test_made_by_place_and_by_name(self):
        self.assertEqual(Standing(x=3, y=4, z=5).numbers, (3, 4, 5))
        self.assertEqual(Standing(z=5, x=3, y=4).numbers, (3, 4, 5))
        self.assertEqual(Standing(3, z=5, y=4).numbers, (3, 4, 5))

    def test_a_ring_has_all_numbers_on_one_side_of_zero(self):
        for numbers in itertools.product([-2, -1, 0, 1, 3], repeat=3):
            with self.subTest(numbers=numbers):
                ringed = all(number > 0 for number in numbers) or all(number < 0 for number in numbers)
                self.assertIs(Standing(*numbers).is_ring, ringed)

    def test_rings_of_great_sizes(self):
        self.assertIs(Standing(GREATEST, GREATEST, 1).is_ring, True)
        self.assertIs(Standing(-GREATEST, -1, -GREATEST).is_ring, True)
        self.assertIs(Standing(-GREATEST, 1, -GREATEST).is_ring, False)

    def test_mark(self):
        cases = [
            ((3, 4, 5), 9 + 16 + 25 - 60), ((-3, -4, -5), -10), ((3, 4, -5), 110), ((3, -4, -5), 110),
            ((0, 0, 0), 0), ((0, 3, -4), 25), ((2, 2, 2), 4), ((1, 1, 1), 2), ((-1, 1, 1), 4), ((3, 3, 3), 0),
        ]
        for numbers, mark in cases:
            with self.subTest(numbers=numbers):
                self.assertEqual(Standing(*numbers).mark, mark)

    def test_mark_of_great_sizes(self):
        squares = 3 * GREATEST * GREATEST
        product = GREATEST * GREATEST * GREATEST
        self.assertEqual(Standing(GREATEST, GREATEST, GREATEST).mark, squares - product)
        self.assertEqual(Standing(-GREATEST, -GREATEST, -GREATEST).mark, squares - product)
        self.assertEqual(Standing(GREATEST, GREATEST, -GREATEST).mark, squares + product)

    def test_sizes_up_to_the_greatest_are_let(self):
        for place in range(3):
            for number in (GREATEST, -GREATEST):
                numbers = [1, 1, 1]
                numbers[place] = number
                self.assertEqual(Standing(*numbers).numbers, tuple(numbers))

    def test_greater_sizes_are_wrong(self):
        for place in range(3):
            for number in (GREATEST + 1, -GREATEST - 1, 10 ** 390, -10 ** 390):
                numbers = [1, 1, 1]
                numbers[place] = number
                with self.subTest(place=place, sign=number > 0):
                    self.wrong(place, *numbers)

    def test_what_is_no_integer_is_wrong(self):
        for place in range(3):
            for value in NO_INTEGERS:
                numbers = [1, 1, 1]
                numbers[place] = value
                with self.subTest(place=place, value=value):
                    self.wrong(place, *numbers)

    def test_the_first_wrong_number_counts(self):
        self.wrong(0, None, None, None)
        self.wrong(0, True, "x", GREATEST + 1)
        self.wrong(1, 1, "x", GREATEST + 1)
        self.wrong(1, GREATEST, GREATEST + 1, None)
        self.wrong(2, 1, -GREATEST, False)
        with self.assertRaises(InvalidNumbers) as caught:
            Standing(z=None, y=[], x=1)
        self.assertEqual(caught.exception.index, 1)

    def test_equal_are_those_of_equal_numbers(self):
        standing = Standing(3, 4, 5)
        self.assertTrue(standing == Standing(3, 4, 5))
        self.assertFalse(standing != Standing(3, 4, 5))
        self.assertTrue(Standing(GREATEST, 0, -1) == Standing(10 ** 300, 0, -1))
        for other in [Standing(4, 3, 5), Standing(-3, -4, -5), Standing(3, 4, -5), Standing(3, 4, 6)]:
            self.assertFalse(standing == other)
            self.assertTrue(standing != other)

    def test_never_equal_to_values_of_other_kinds(self):
        standing = Standing(3, 4, 5)
        others = ((3, 4, 5), [3, 4, 5], "3 4 5", None, True, 3, {}, (standing,), [standing], Standing, OtherTriple())
        for other in others:
            with self.subTest(other=other):
                self.assertIs(standing == other, False)
                self.assertIs(standing != other, True)
                self.assertIs(other == standing, False)
                self.assertIs(other != standing, True)

    def test_standings_are_true_and_stay_as_they_are(self):
        standing = Standing(0, 0, 0)
        self.assertTrue(standing)
        for name in ("numbers", "sizes", "is_ring", "mark"):
            self.assertRaises(AttributeError, setattr, standing, name, 1)
        self.assertEqual(standing.numbers, (0, 0, 0))


if __name__ == "__main__":
    unittest.main()
