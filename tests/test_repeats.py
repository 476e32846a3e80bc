"""Repeated words against plain loops where small sizes count as too great already, so that many draws end so."""

import random
import unittest
from unittest import mock

from arrowtrios import repeats
from tests.plain import loop


def drawn(draw, most):
    """Numbers, a word and times, with turns at two places and at all three."""
    numbers = [draw.randint(-draw.choice([1, 2, 4, most]), draw.choice([1, 2, 4, most])) for _ in range(3)]
    if draw.random() < 0.6:
        numbers = [abs(number) for number in numbers]
    if draw.random() < 0.3:
        numbers[draw.randrange(3)] = 2
    numbers = tuple(max(-most, min(most, number)) for number in numbers)
    letters = draw.choice(["abc", "abc", "ab", "bc", "ca", "cb"])
    word = "".join(draw.choice(letters) for _ in range(draw.randint(1, 12)))
    return numbers, word, draw.choice([0, 1, 2, 3, 4, 7, draw.randint(0, 40)])


class RepeatsTest(unittest.TestCase):
    def test_drawn_words_under_small_limits(self):
        draw = random.Random(7)
        for most in (2, 3, 10, 50, 1000):
            ends = 0
            for _ in range(2500):
                numbers, word, times = drawn(draw, most)
                if len(set(word)) == 3:
                    # The figures of sizes add up at each turn, so a plain loop over more turns has no end.
                    times = min(times, 16 // len(word) + 1)
                expected = loop(numbers, word, times)
                if max(abs(number) for number in expected) > most:
                    expected = None
                    ends += 1
                with mock.patch.object(repeats, "GREATEST", most):
                    behind = repeats.behind_pair(numbers, word, times)
                self.assertEqual(behind, expected, (numbers, word, times, most))
            self.assertGreater(ends, 200)


if __name__ == "__main__":
    unittest.main()
