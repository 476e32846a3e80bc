"""What is given to the functions over kinds: by place, by name, wrong, twice, and not changed [3] [4] [5]."""

import copy
import unittest

from arrowtrios.errors import InvalidBound, InvalidNumber, InvalidRemainders, NotAStanding, TooMany
from arrowtrios.kinds import foot, free_ones, is_ringed, least, rings_of_mark, same_kind
from arrowtrios.lists import least_above, many_at, standings_to
from arrowtrios.naming import naming_between, own_namings
from arrowtrios.remainders import at_ties, leaves, remainders
from arrowtrios.roads import descent, freeing, road, steps
from arrowtrios.standings import Standing
from tests.plain import GREATEST, NO_INTEGERS

RING, UP, PATH = Standing(3, 4, 5), Standing(3, 17, 7), Standing(2, 3, 4)

# Each function, and its parameters in order with arguments that are right.
FUNCTIONS = [
    (is_ringed, {"standing": RING}), (least, {"standing": RING}), (foot, {"standing": PATH}),
    (same_kind, {"one": RING, "other": UP}), (free_ones, {"standing": PATH}), (rings_of_mark, {"mark": -2}),
    (descent, {"standing": UP}), (road, {"one": RING, "other": UP}), (steps, {"one": RING, "other": UP}),
    (freeing, {"standing": PATH}),
    (standings_to, {"standing": RING, "bound": 9}), (least_above, {"standing": RING, "bound": 9}),
    (many_at, {"standing": RING, "turns": 3}),
    (remainders, {"standing": RING, "number": 3}), (at_ties, {"standing": RING, "number": 3}),
    (leaves, {"standing": RING, "number": 3, "rests": (0, 1, 2)}),
    (naming_between, {"one": UP, "other": Standing(5, 3, 4)}), (own_namings, {"standing": PATH}),
]

NO_STANDINGS = (None, True, 0, 7, "", "abc", b"abc", (), (3, 4, 5), [3, 4, 5], {}, {"x": 3}, set(), object(), Standing,
                (RING,), [RING], ((("b", 1),)), foot(RING), least(RING))

NO_NUMBERS = (1, 0, -1, 13, 14, -2, -12, 10 ** 300, -10 ** 300, *NO_INTEGERS)

NO_BOUNDS = (-1, -2, 10 ** 6 + 1, GREATEST, -GREATEST, *NO_INTEGERS)

NO_TURNS = (-1, 1001, 10 ** 6, GREATEST, -GREATEST, *NO_INTEGERS, (("ab", 1),), "ab", ("ab", 1))

NO_MARKS = (4, 5, -10 ** 6 - 1, GREATEST, -GREATEST, *NO_INTEGERS)

WRONG = {
    "standing": (NotAStanding, NO_STANDINGS), "one": (NotAStanding, NO_STANDINGS),
    "other": (NotAStanding, NO_STANDINGS), "number": (InvalidNumber, NO_NUMBERS), "bound": (InvalidBound, NO_BOUNDS),
    "turns": (InvalidBound, NO_TURNS), "mark": (InvalidNumber, NO_MARKS),
    "rests": (InvalidRemainders, (None, (), (0, 1), [0, 1, 2], (0, 1, 3), (0, 1, 2, 0), "012")),
}


class GivenTest(unittest.TestCase):
    def test_by_place_and_by_name(self):
        for function, good in FUNCTIONS:
            with self.subTest(function=function.__name__):
                by_place = function(*good.values())
                self.assertEqual(function(**good), by_place)
                self.assertEqual(function(**dict(reversed(good.items()))), by_place)
                first, *others = good
                self.assertEqual(function(good[first], **{name: good[name] for name in others}), by_place)

    def test_equal_calls_tell_equal_things(self):
        before = [function(*good.values()) for function, good in FUNCTIONS]
        for standing in (PATH, UP, Standing(2, 2, 2), Standing(1, 1, 0), Standing(GREATEST, 2, GREATEST - 1)):
            foot(standing), descent(standing), remainders(standing, 12), many_at(standing, 9), freeing(standing)
            with self.assertRaises(NotAStanding):
                road(standing, None)
        with self.assertRaises(TooMany):
            standings_to(PATH, 10 ** 6)
        self.assertEqual([function(*good.values()) for function, good in FUNCTIONS], before)
        for _ in range(3):
            alike = [{name: copy.deepcopy(value) for name, value in good.items()} for _, good in FUNCTIONS]
            self.assertEqual([function(**good) for (function, _), good in zip(FUNCTIONS, alike)], before)

    def test_what_is_given_is_not_changed(self):
        for function, good in FUNCTIONS:
            kept = [value.numbers if isinstance(value, Standing) else value for value in good.values()]
            function(*good.values())
            now = [value.numbers if isinstance(value, Standing) else value for value in good.values()]
            self.assertEqual(now, kept)
        rests = [0, 1, 2]
        with self.assertRaises(InvalidRemainders):
            leaves(RING, 3, rests)
        self.assertEqual(rests, [0, 1, 2])


class WrongTest(unittest.TestCase):
    def test_wrong_arguments_one_by_one(self):
        for function, good in FUNCTIONS:
            for name in good:
                error_class, values = WRONG[name]
                for value in values:
                    with self.subTest(function=function.__name__, name=name, value=value):
                        with self.assertRaises(error_class) as caught:
                            function(**{**good, name: value})
                        self.assertIs(caught.exception.__class__, error_class)
                        if error_class is not InvalidRemainders:
                            self.assertIs(caught.exception.given, value)

    def test_the_first_wrong_argument_is_told(self):
        for function, good in FUNCTIONS:
            names = list(good)
            for at, name in enumerate(names):
                error_class, values = WRONG[name]
                for shift, value in enumerate(values):
                    wrong = {**good, name: value}
                    for further in names[at + 1:]:
                        wrong[further] = WRONG[further][1][shift % len(WRONG[further][1])]
                    with self.assertRaises(error_class) as caught:
                        function(*wrong.values())
                    if error_class is not InvalidRemainders:
                        self.assertIs(caught.exception.given, value)

    def test_a_wrong_bound_ahead_of_too_many(self):
        for function in (standings_to, least_above):
            for bound in NO_BOUNDS:
                with self.assertRaises(InvalidBound):
                    function(PATH, bound)

    def test_the_edges_are_let(self):
        self.assertEqual([standings_to(RING, 0), least_above(RING, 0)], [(), 3])
        self.assertEqual(type(standings_to(RING, 10 ** 6)), tuple)
        self.assertEqual(type(least_above(RING, 10 ** 6)), int)
        self.assertEqual([many_at(RING, 0), many_at(RING, 1000)], [1, 3 * 2 ** 999])
        self.assertEqual([type(rings_of_mark(3)), type(rings_of_mark(-10 ** 6))], [tuple, tuple])
        self.assertEqual([len(at_ties(RING, number)) for number in (2, 12)], [3, 3])


if __name__ == "__main__":
    unittest.main()
