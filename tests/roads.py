"""What tests of roads ask of them all."""

from arrowtrios.errors import TooGreat
from arrowtrios.roads import road, steps
from arrowtrios.standings import Standing, length, turned


def check_road(test, one, other, many):
    """Ask that the road between two standings, of so many turns, is told, there and back; return it."""
    row = road(one, other)
    test.assertIs(type(row), tuple)
    test.assertEqual(turned(one, row).numbers, other.numbers)
    test.assertEqual([length(row), steps(one, other), steps(other, one)], [many, many, many])
    back = road(other, one)
    test.assertEqual(turned(other, back).numbers, one.numbers)
    test.assertEqual(length(back), many)
    return row


def behind(numbers, *row):
    """The Standing behind a row of turns."""
    return turned(Standing(*numbers), row)


def grown(standing, word):
    """The last Standing that is let on the way by a repeated word, turn by turn, and how many turns led there."""
    turns = 0
    while True:
        try:
            standing = turned(standing, ((word[turns % len(word)], 1),))
        except TooGreat:
            return standing, turns
        turns += 1
