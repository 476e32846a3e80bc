"""The examples of the document, as they stand there."""

import doctest
import unittest

STANDINGS = """
>>> from arrowtrios.standings import Standing, length, renamed, turned
>>> ring = Standing(3, 4, 5)
>>> [ring.sizes, ring.is_ring, ring.mark, turned(ring, (("b", 1),)).numbers, turned(ring, (("ba", 1), ("c", 2))).numbers, length((("ba", 3), ("c", 2)))]
[(3, 4, 5), True, -10, (-3, -4, -7), (3, 17, 7), 8]
>>> [turned(Standing(2, 3, 4), (("ab", 10 ** 20),)).numbers, renamed(ring, "bca").numbers, renamed(ring, "acb").numbers]
[(2, 200000000000000000003, 200000000000000000004), (4, 5, 3), (-5, -4, -3)]
"""


def told(text):
    """How many examples of a text fail, and how many there are."""
    example = doctest.DocTestParser().get_doctest(text, {}, "examples", None, 0)
    return tuple(doctest.DocTestRunner().run(example))


class ExamplesTest(unittest.TestCase):
    def test_standings(self):
        self.assertEqual(told(STANDINGS), (0, 4))

    def test_the_standing_that_is_not_ringed(self):
        # The turns that [10] tells of the ring (2, 3, 4).
        text = """
>>> from arrowtrios.standings import Standing, turned
>>> [turned(Standing(2, 3, 4), ((word, 1),)).numbers for word in ("b", "ba", "bab", "bac")]
[(-2, -3, -2), (2, 1, 2), (-2, -1, 0), (0, -1, -2)]
"""
        self.assertEqual(told(text), (0, 2))


if __name__ == "__main__":
    unittest.main()
