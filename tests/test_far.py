"""`turned` where times are too many for a loop over all turns [8]."""

import itertools
import unittest

from arrowtrios.standings import Standing, turned
from tests.plain import GREATEST, MOST_TIMES, evenly, loop, outcome, round_of, turn

MANY = (MOST_TIMES, MOST_TIMES - 1, MOST_TIMES - 2, MOST_TIMES // 3, 10 ** 20 + 7)

STANDINGS = (
    (3, 4, 5), (-3, -4, -7), (2, 3, 4), (2, 2, 2), (-2, -6, -6), (0, 0, 0), (0, 5, 7), (1, 1, 1), (1, -4, 0),
    (3, -4, 5), (GREATEST, GREATEST, -GREATEST), (GREATEST, GREATEST, GREATEST), (-2, -GREATEST, 1 - GREATEST),
)

FAR = 10 ** 100


class FallingOutTest(unittest.TestCase):
    def test_words_that_fall_out_wholly(self):
        for numbers in STANDINGS:
            for word in ("aa", "abba", "cbaabc", "aabbcc", "abccbaabccba", "aaaaaaaaaaaa"):
                for times in (1, *MANY):
                    self.assertEqual(outcome(numbers, ((word, times),)), numbers)

    def test_words_of_one_place(self):
        for numbers in STANDINGS[:11]:
            for word in "abc":
                behind = turn(numbers, word)
                if max(abs(number) for number in behind) <= GREATEST:
                    self.assertEqual(outcome(numbers, ((word, MOST_TIMES - 1),)), behind)
                self.assertEqual(outcome(numbers, ((word, MOST_TIMES),)), numbers)

    def test_words_around_one_place(self):
        for numbers in STANDINGS:
            for word in ("abcba", "cac", "aab", "bcabacb", "abbbbac", "abcacba"):
                self.assertEqual(outcome(numbers, ((word, MOST_TIMES),)), numbers)
                behind = loop(numbers, word)
                if max(abs(number) for number in behind) > GREATEST:
                    behind = "too great at 0"
                self.assertEqual(outcome(numbers, ((word, MOST_TIMES - 1),)), behind)

    def test_words_that_fall_out_in_part(self):
        for numbers in STANDINGS:
            for times in (1, 2, 5, *MANY):
                for word, rest in [("abcc", "ab"), ("aabc", "bc"), ("abbbcaac", "ab"), ("cabbaa", "ca")]:
                    self.assertEqual(outcome(numbers, ((word, times),)), outcome(numbers, ((rest, times),)))


class TwoPlacesTest(unittest.TestCase):
    def test_no_arrow_or_one_between_the_places(self):
        for tie in (0, 1, -1):
            for y, z in itertools.product([-5, -1, 0, 1, 2, 7, 10 ** 299, -10 ** 299], repeat=2):
                for numbers, word in [((tie, y, z), "ab"), ((y, z, tie), "ca"), ((z, tie, y), "cbcbcb")]:
                    size = round_of(numbers, word)
                    for times in MANY:
                        self.assertEqual(outcome(numbers, ((word, times),)), loop(numbers, word, times % size))

    def test_two_arrows_between_the_places(self):
        for y, z in itertools.product([-4, -3, -1, 0, 1, 2, 3, 7], repeat=2):
            for tie in (2, -2):
                for numbers, word in [((tie, y, z), "ab"), ((tie, y, z), "ba"), ((y, tie, z), "bc"), ((y, z, tie), "ca")]:
                    for times in (40, 41, 10 ** 20, 10 ** 298 + 1):
                        self.assertEqual(outcome(numbers, ((word, times),)), evenly(numbers, word, times))

    def test_longer_words_at_two_places(self):
        for word, many in [("abab", 2), ("bababa", 3), ("abababababab", 6)]:
            behind = evenly((2, 3, 4), word[:2], many * 10 ** 200)
            self.assertEqual(outcome((2, 3, 4), ((word, 10 ** 200),)), behind)

    def test_two_equal_sizes_beside_two_arrows_stay(self):
        for size in (2, 3, 17, GREATEST):
            for word in ("ab", "ba", "baba"):
                self.assertEqual(outcome((2, size, size), ((word, MOST_TIMES),)), (2, size, size))
            self.assertEqual(outcome((2, size, size), (("ab", MOST_TIMES), ("a", 1))), (-2, -size, -size))
            self.assertEqual(outcome((-2, -size, -size), (("ba", MOST_TIMES),)), (-2, -size, -size))
        self.assertEqual(outcome((2, 0, 0), (("ab", MOST_TIMES),)), (2, 0, 0))
        self.assertEqual(outcome((-7, 0, 0), (("ab", MOST_TIMES),)), (-7, 0, 0))

    def test_evenly_down_to_the_foot_and_up_on_the_other_side(self):
        high = (2, 2 * FAR + 3, 2 * FAR + 4)
        self.assertEqual(outcome((2, 3, 4), (("ab", FAR),)), high)
        for times in range(40):
            self.assertEqual(outcome(high, (("ba", FAR + times),)), loop((2, 3, 4), "ba", times))
        behind = evenly((2, 3, 4), "ba", 10 ** 250)
        self.assertEqual(outcome(high, (("ba", FAR + 10 ** 250),)), behind)
        self.assertEqual(outcome(high, (("ba", MOST_TIMES),)), "too great at 0")

    def test_evenly_with_any_difference_and_any_sense(self):
        for y, z in itertools.product(range(-6, 9), repeat=2):
            for sign in (1, -1):
                numbers = (2 * sign, y * sign, z * sign)
                far = outcome(numbers, (("ab", FAR),))
                for times in (FAR - 1, FAR, FAR + 1, FAR + 9):
                    near = loop(numbers, "ab", FAR - times) if times <= FAR else loop(numbers, "ba", times - FAR)
                    self.assertEqual(outcome(far, (("ba", times),)), near)

    def test_three_arrows_and_more_between_the_places(self):
        for numbers in [(3, 4, 5), (3, 3, 4), (7, 1, 1), (3, 0, 1), (-5, 2, 2), (-9, -2, -3), (4, 5, -6)]:
            for word in ("ab", "ba"):
                high = loop(numbers, word, 60)
                for times in (59, 60, 61, 70):
                    near = loop(numbers, word, 60 - times) if times <= 60 else loop(numbers, word[::-1], times - 60)
                    self.assertEqual(outcome(high, ((word[::-1], times),)), near)
                self.assertEqual(outcome(numbers, ((word, MOST_TIMES),)), "too great at 0")
                self.assertEqual(outcome(high, ((word[::-1], MOST_TIMES),)), "too great at 0")


class ThreePlacesTest(unittest.TestCase):
    def test_turns_that_stay_among_finitely_many_standings(self):
        words = ["".join(letters) for letters in itertools.product("abc", repeat=3)] + ["abcb", "abcacb", "abcabcabcabc"]
        found = 0
        for numbers in itertools.product([-1, 0, 1], repeat=3):
            for word in words:
                size = round_of(numbers, word)
                if size is None:
                    continue
                found += 1
                for times in MANY:
                    self.assertEqual(outcome(numbers, ((word, times),)), loop(numbers, word, times % size))
        self.assertGreater(found, 600)

    def test_turns_along_arrows_that_go_round_nowhere(self):
        for x, y, z in [(3, 4, -5), (2, 0, -7), (1, 1, -1), (GREATEST, GREATEST, -GREATEST), (0, 10 ** 200, -3)]:
            for times in MANY:
                self.assertEqual(outcome((x, y, z), (("abc", times),)), (x, y, z))
                self.assertEqual(outcome((x, y, z), (("abcabcabcabc", times), ("a", 1))), (-x, y, -z))
                self.assertEqual(outcome((-x, -y, -z), (("cba", times),)), loop((-x, -y, -z), "cba", times % 1))

    def test_two_arrows_in_all_ties(self):
        for word in ("abc", "abcb", "acbca", "bcab"):
            for times in MANY:
                sign = -1 if len(word) * times % 2 == 1 else 1
                self.assertEqual(outcome((2, 2, 2), ((word, times),)), (2 * sign, 2 * sign, 2 * sign))

    def test_a_ring_that_goes_up_for_ever_is_too_great(self):
        for numbers in [(3, 4, 5), (-3, -4, -5), (2, 2, 3), (3, 3, 3), (2, 3, 4), (GREATEST, 3, 4)]:
            for word in ("abc", "acb", "abcb", "abababababac"):
                self.assertEqual(outcome(numbers, ((word, MOST_TIMES),)), "too great at 0")
                self.assertEqual(outcome(numbers, (("aa", MOST_TIMES), (word, 10 ** 9))), "too great at 1")

    def test_down_to_the_foot_and_up_on_the_other_side(self):
        for numbers in [(3, 4, 5), (-3, -4, -5), (2, 2, 3), (3, 3, 3), (2, 3, 4), (2, 3, -4), (0, 3, 4)]:
            for word in ("abc", "cab", "abcb", "abac"):
                high = loop(numbers, word, 2)
                back = word[::-1]
                if max(abs(number) for number in high) > GREATEST:
                    continue
                self.assertEqual(outcome(high, ((back, 1),)), loop(numbers, word))
                self.assertEqual(outcome(high, ((back, 2),)), numbers)
                self.assertEqual(outcome(high, ((back, 3),)), loop(numbers, back))
                if round_of(high, back) is None:
                    self.assertEqual(outcome(high, ((back, MOST_TIMES),)), "too great at 0")


class ThereAndBackTest(unittest.TestCase):
    def test_two_arrows_between_the_same_letters_backwards(self):
        far = 10 ** 30
        high = (2, 2 * far + 3, 2 * far + 4)
        for way, word in [("c", "cbac"), ("c", "cbaaac"), ("ca", "cabaac"), ("cb", "cbabbc"), ("cb", "cbbabc"), ("cbac", "cbacbacabc")]:
            begun = loop(high, way[::-1])
            core = word[len(way):len(word) - len(way)]
            self.assertEqual(way + core + way[::-1], word)
            for times in (far - 1, far, far + 1, far + 2, far + 30, far + 10 ** 28):
                middle = outcome(high, ((core, times),))
                self.assertEqual(outcome(begun, ((word, times),)), loop(middle, way[::-1]))

    def test_the_words_of_one_core(self):
        # "cabc" and "cb" + "ab" + "bc", at standings that turns lead down from at first
        for way in ("c", "cb"):
            word = way + "ab" + way[::-1]
            for numbers in [(2, 3, 4), (2, 9, 7), (2, 5, -3), (-2, -8, -3), (1, 4, 7), (0, 3, 5), (2, 0, 1)]:
                begun = loop(numbers, way[::-1])
                for times in (0, 1, 2, 7, 10 ** 20, 10 ** 100):
                    middle = outcome(numbers, (("ab", times),))
                    self.assertEqual(outcome(begun, ((word, times),)), loop(middle, way[::-1]), (word, numbers, times))

    def test_three_places_between_the_same_letters_backwards(self):
        for numbers in [(3, 4, -5), (1, 0, -7), (1, 1, -1), (2, 2, 2)]:
            for way in ("b", "ca", "bc", "cb"):
                begun = loop(numbers, way[::-1])
                word = way + "abc" + way[::-1]
                for times in MANY:
                    middle = loop(numbers, "abc", times % round_of(numbers, "abc"))
                    self.assertEqual(outcome(begun, ((word, times),)), loop(middle, way[::-1]))

    def test_rows_backwards_lead_back(self):
        rows = [
            (("ab", 10 ** 50), ("c", 1), ("c", 3), ("bab", 10 ** 60 + 1)),
            (("ab", 10 ** 15), ("c", 1), ("bcb", 7), ("bcacb", 10 ** 310 - 1)),
            (("cb", 2), ("ab", 1), ("cabbac", 10 ** 310), ("abcb", 1)),
        ]
        for row in rows:
            for numbers in [(2, 3, 4), (2, 5, 5), (2, -1, 1), (1, 4, 2)]:
                behind = turned(Standing(*numbers), row)
                back = tuple((word[::-1], times) for word, times in reversed(row))
                self.assertEqual(turned(behind, back).numbers, numbers)
                self.assertEqual(behind.mark, Standing(*numbers).mark)


if __name__ == "__main__":
    unittest.main()
