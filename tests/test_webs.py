"""Webs: their rows, turns, and what is kept of a place [13]."""

import math
import random
import unittest

from arrowtrios.errors import InvalidPlace, InvalidRows, TooGreat
from arrowtrios.standings import Standing
from arrowtrios.webs import Web
from tests.plain import NO_INTEGERS, turn
from tests.webs import all_rows, arrow_by_arrow, by_sums, rows_of

MOST = int("1" + "0" * 30)

PATH = ((0, 1, 0, 0), (-1, 0, 2, 0), (0, -2, 0, 0), (0, 0, 0, 0))


def drawn(draw, many, most):
    """The rows of some web."""
    return rows_of(many, [draw.randint(-most, most) for _ in range(many * (many - 1) // 2)])


class RowsTest(unittest.TestCase):
    def wrong(self, index, rows):
        with self.assertRaises(InvalidRows) as caught:
            Web(rows)
        self.assertEqual(caught.exception.index, index)
        self.assertIs(type(caught.exception.index), type(index))

    def test_rows_as_they_were_passed(self):
        draw = random.Random(41)
        for many in (2, 3, 4, 5):
            for most in (0, 1, 2, 9, 10 ** 15, MOST):
                rows = drawn(draw, many, most)
                self.assertEqual(Web(rows).rows, rows)
                self.assertIs(type(Web(rows).rows), tuple)
                self.assertEqual(Web(rows=rows).rows, rows)

    def test_what_is_no_tuple_or_too_short(self):
        for value in (*NO_INTEGERS, 5, [[0, 1], [-1, 0]], [(0, 1), (-1, 0)], "ab", {(0, 1): (-1, 0)}, Web(PATH), Web):
            self.wrong(None, value)
        for value in ((), ((0,),), ((0, 1),), ("ab",), (None,), ([],)):
            self.wrong(None, value)

    def test_a_row_that_is_not_right_by_itself(self):
        for value in (None, True, 0, "01", b"01", [0, 1], {0: 1}, (), (0,), (0, 1, 0), (0, True), (False, 1), (0, None),
                      (0, "1"), (0, (1,)), (0, [1]), (1, 0), (5, 1), (-1, 1), (0, MOST + 1), (0, -MOST - 1)):
            self.wrong(0, (value, (-1, 0)))
            self.wrong(0, (value, value))
            self.wrong(0, (value, None))
        for value in (None, [-1, 0], (-1,), (-1, 0, 0), (-1, 1), (-1, -1), (-1, False), (-1, None), ("-1", 0)):
            self.wrong(1, ((0, 1), value))
        self.wrong(1, ((0, True - 0), (-1, False)))
        self.wrong(1, ((0, -1), (True, 0)))

    def test_a_row_that_is_not_right_with_those_ahead_of_it(self):
        self.wrong(1, ((0, 1), (1, 0)))
        self.wrong(1, ((0, 1), (0, 0)))
        self.wrong(1, ((0, MOST), (MOST, 0)))
        self.wrong(2, ((0, 1, 2), (-1, 0, 3), (-2, 3, 0)))
        self.wrong(2, ((0, 1, 2), (-1, 0, 3), (2, -3, 0)))
        self.wrong(1, ((0, 1, 2), (1, 0, 3), (-2, 3, 0)))
        # The first row is right by itself, and those behind it do not matter.
        self.wrong(1, ((0, 7, 9), (1, 0, 3), None))
        self.wrong(4, rows_of(5, range(10))[:4] + ((0, 1, 2, 3, 4),))

    def test_numbers_up_to_the_greatest(self):
        self.assertEqual(Web(((0, MOST), (-MOST, 0))).rows, ((0, MOST), (-MOST, 0)))
        self.assertEqual(Web(((0, -MOST), (MOST, 0))).rows, ((0, -MOST), (MOST, 0)))
        self.wrong(0, ((0, MOST + 1), (-MOST - 1, 0)))
        self.wrong(1, ((0, 0, MOST), (0, 0, -MOST - 1), (-MOST, MOST + 1, 0)))
        self.wrong(0, ((0, 10 ** 399), (-10 ** 399, 0)))

    def test_each_number_otherwise(self):
        draw = random.Random(42)
        for many in (2, 3, 4, 5):
            rows = drawn(draw, many, 5)
            for index in range(many):
                for place in range(many):
                    wrong = [list(row) for row in rows]
                    wrong[index][place] += 1
                    self.wrong(max(index, place), tuple(map(tuple, wrong)))

    def test_a_sixth_row(self):
        self.wrong(5, ((0,) * 6,) * 6)
        self.wrong(5, rows_of(6, range(15)))
        self.wrong(5, rows_of(6, range(15))[:5] + (None,))
        self.wrong(5, rows_of(8, range(28)))
        self.wrong(3, rows_of(6, range(15))[:3] + (None,) * 3)

    def test_a_row_more_or_less(self):
        for many in (3, 4, 5):
            self.wrong(0, rows_of(many, range(many * (many - 1) // 2))[:-1])
        for many in (2, 3, 4):
            self.wrong(0, rows_of(many, range(many * (many - 1) // 2)) + ((0,) * many,))


class EqualTest(unittest.TestCase):
    def test_equal_just_if_the_rows_are(self):
        webs = list(all_rows(3, 1)) + list(all_rows(2, 2))
        for one in webs:
            for other in webs:
                self.assertIs(Web(one) == Web(other), one == other)
                self.assertIs(Web(one) != Web(other), one != other)

    def test_never_equal_to_values_of_other_classes(self):
        web = Web(((0, 1, 2), (-1, 0, 3), (-2, -3, 0)))
        for value in (*NO_INTEGERS, web.rows, list(web.rows), 0, Web, Standing(1, 3, -2)):
            self.assertIs(web == value, False)
            self.assertIs(value == web, False)
            self.assertIs(web != value, True)

    def test_webs_are_true(self):
        self.assertTrue(Web(((0, 0), (0, 0))))
        self.assertTrue(Web(PATH))


class TurnTest(unittest.TestCase):
    def test_small_numbers_arrow_by_arrow(self):
        for many, most in [(2, 5), (3, 3), (4, 1)]:
            for rows in all_rows(many, most):
                for place in range(many):
                    self.assertEqual(Web(rows).turn(place).rows, arrow_by_arrow(rows, place))

    def test_drawn_numbers_arrow_by_arrow(self):
        draw = random.Random(43)
        for _ in range(400):
            rows = drawn(draw, draw.choice([3, 4, 5]), draw.choice([1, 2, 4, 7]))
            for place in range(len(rows)):
                behind = arrow_by_arrow(rows, place)
                self.assertEqual(Web(rows).turn(place).rows, behind)
                self.assertEqual(by_sums(rows, place), behind)

    def test_great_numbers(self):
        draw = random.Random(44)
        for _ in range(400):
            rows = drawn(draw, draw.choice([3, 4, 5]), draw.choice([10 ** 6, 10 ** 13, 7 * 10 ** 14]))
            for place in range(len(rows)):
                self.assertEqual(Web(rows).turn(place).rows, by_sums(rows, place))

    def test_rows_of_turns(self):
        draw = random.Random(45)
        for _ in range(200):
            rows = drawn(draw, draw.choice([3, 4, 5]), 1)
            web = Web(rows)
            for _ in range(8):
                place = draw.randrange(len(rows))
                rows = by_sums(rows, place)
                if max(abs(number) for row in rows for number in row) > 10 ** 30:
                    break
                web = web.turn(place)
                self.assertEqual(web.rows, rows)

    def test_the_turn_again_gives_the_first_web(self):
        draw = random.Random(46)
        for _ in range(300):
            web = Web(drawn(draw, draw.choice([2, 3, 4, 5]), draw.choice([1, 3, 10 ** 14])))
            for place in range(len(web.rows)):
                behind = web.turn(place)
                self.assertIsInstance(behind, Web)
                self.assertTrue(behind.turn(place) == web)

    def test_turns_at_places_without_arrows_between_can_be_exchanged(self):
        draw = random.Random(47)
        seen = 0
        for _ in range(300):
            web = Web(drawn(draw, draw.choice([3, 4, 5]), draw.choice([1, 2])))
            for one in range(len(web.rows)):
                for other in range(one):
                    if web.rows[one][other] == 0:
                        seen += 1
                        self.assertTrue(web.turn(one).turn(other) == web.turn(other).turn(one))
        self.assertGreater(seen, 300)

    def test_the_web_itself_stays_as_it_was(self):
        web = Web(PATH)
        for place in range(4):
            web.turn(place)
            self.assertEqual(web.rows, PATH)
            self.assertEqual(web.turn(place=place).rows, by_sums(PATH, place))
            self.assertEqual(web.turn(place).rows, web.turn(place).rows)

    def test_what_is_no_place(self):
        web = Web(PATH)
        for value in (-1, 4, 5, -4, 10 ** 300, *NO_INTEGERS, "a", "0", (0,), (0, 1), 10 ** 30):
            with self.assertRaises(InvalidPlace) as caught:
                web.turn(value)
            self.assertIs(caught.exception.given, value)
        with self.assertRaises(InvalidPlace):
            Web(((0, 1), (-1, 0))).turn(2)
        with self.assertRaises(InvalidPlace):
            web.turn(place=-1)

    def test_just_the_greatest_size_is_let(self):
        ways = [(10 ** 15, 10 ** 15, 0), (10 ** 15, 10 ** 15, 5), (MOST, 1, 0), (MOST, 2, MOST), (2, MOST // 2, 0),
                (10 ** 10, 10 ** 20, 0)]
        for coming, going, back in ways:
            for sign in (1, -1):
                # At the place 1: `back` arrows lead from the place 2 to the place 0.
                web = Web(rows_of(3, [sign * coming, -sign * back, sign * going]))
                self.assertEqual(web.turn(1).rows[0][2], sign * (coming * going - back))
                self.assertEqual(max(abs(number) for row in web.turn(1).rows for number in row),
                                 max(coming, going, coming * going - back))
        self.assertEqual(Web(rows_of(3, [10 ** 15, 0, 10 ** 15])).turn(1).rows[0][2], MOST)

    def test_one_more_is_too_great(self):
        for numbers in [(10 ** 15, 1, 10 ** 15), (MOST, 0, 2), (MOST, 1, 1), (2, 1, MOST // 2), (MOST, MOST, MOST)]:
            for sign in (1, -1):
                web = Web(rows_of(3, [sign * number for number in numbers]))
                with self.assertRaises(TooGreat) as caught:
                    web.turn(1)
                self.assertEqual(caught.exception.index, 0)
                self.assertEqual(web.rows, rows_of(3, [sign * number for number in numbers]))
                for place in (0, 2):
                    self.assertEqual(web.turn(place).rows, by_sums(web.rows, place))

    def test_too_great_is_looked_for_last(self):
        web = Web(rows_of(3, [MOST, MOST, MOST]))
        with self.assertRaises(InvalidPlace):
            web.turn(3)

    def test_three_places_turn_as_standings_do(self):
        draw = random.Random(48)
        for _ in range(500):
            x, y, z = (draw.randint(-9, 9) for _ in range(3))
            web = Web(rows_of(3, [x, -z, y]))
            for place, letter in enumerate("abc"):
                now = turn((x, y, z), letter)
                self.assertEqual(web.turn(place).rows, rows_of(3, [now[0], -now[2], now[1]]))


class KeptTest(unittest.TestCase):
    def test_the_greatest_integer_that_divides_each_row(self):
        draw = random.Random(49)
        for _ in range(300):
            factor = draw.choice([0, 1, 2, 3, 12, 10 ** 20])
            rows = rows_of(4, [factor * draw.randint(-6, 6) for _ in range(6)])
            kept = Web(rows).kept
            self.assertIs(type(kept), tuple)
            self.assertEqual(kept, tuple(math.gcd(*row) for row in rows))
            for row, divisor in zip(rows, kept, strict=True):
                if any(row):
                    self.assertTrue(all(number % divisor == 0 for number in row))
                    self.assertFalse(any(all(number % (divisor * more) == 0 for number in row) for more in (2, 3, 5)))
                else:
                    self.assertEqual(divisor, 0)

    def test_zeros_alone_and_great_ones(self):
        self.assertEqual(Web(((0, 0), (0, 0))).kept, (0, 0))
        self.assertEqual(Web(((0, -6), (6, 0))).kept, (6, 6))
        self.assertEqual(Web(((0, MOST, 0), (-MOST, 0, 0), (0, 0, 0))).kept, (MOST, MOST, 0))
        self.assertEqual(Web(PATH).kept, (1, 1, 2, 0))

    def test_no_turn_changes_it(self):
        draw = random.Random(50)
        for _ in range(300):
            factor = draw.choice([1, 2, 3, 6])
            rows = rows_of(5, [factor * draw.randint(-2, 2) * draw.choice([1, 1, 5]) for _ in range(10)])
            web = Web(rows)
            kept = web.kept
            for _ in range(4):
                try:
                    web = web.turn(draw.randrange(5))
                except TooGreat:
                    break
                self.assertEqual(web.kept, kept)


if __name__ == "__main__":
    unittest.main()
