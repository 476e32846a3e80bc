"""Standings, rows of turns over them, and standings renamed."""

from arrowtrios.checks import check_turns, is_integer_within
from arrowtrios.errors import InvalidNaming, InvalidNumbers, NotAStanding, TooGreat
from arrowtrios.limits import GREATEST
from arrowtrios.repeats import behind_pair
from arrowtrios.triples import goes_round, mark_of, renamed_by, sizes_of
from arrowtrios.words import places_of

NAMINGS = ("abc", "acb", "bac", "bca", "cab", "cba")


class Standing:
    """Three places on a ring: x arrows from a to b, y from b to c, z from c to a."""

    def __init__(self, x, y, z):
        check_numbers((x, y, z))
        self._numbers = (x, y, z)

    @property
    def numbers(self):
        """The triple of its numbers."""
        return self._numbers

    @property
    def sizes(self):
        """The triple of its sizes."""
        return sizes_of(self._numbers)

    @property
    def is_ring(self):
        """Whether it is a ring."""
        return goes_round(self._numbers)

    @property
    def mark(self):
        """Its mark, which no turn changes."""
        return mark_of(self._numbers)

    def __eq__(self, other):
        return isinstance(other, Standing) and self._numbers == other._numbers


def check_numbers(numbers):
    """Raise InvalidNumbers if one of the three is not a number of a standing."""
    for index, number in enumerate(numbers):
        if not is_integer_within(number, -GREATEST, GREATEST):
            raise InvalidNumbers(index)


def check_standing(value):
    """Raise NotAStanding if a value is none."""
    if not isinstance(value, Standing):
        raise NotAStanding(value)


def turned(standing, turns):
    """Return the Standing behind a row of turns."""
    check_standing(standing)
    check_turns(turns)
    numbers = standing.numbers
    for index, (word, times) in enumerate(turns):
        numbers = behind_pair(numbers, word, times)
        if numbers is None:
            raise TooGreat(index)
    return Standing(*numbers)


def length(turns):
    """Return how many turns a row of turns tells."""
    check_turns(turns)
    return sum([len(word) * times for word, times in turns])


def renamed(standing, naming):
    """Return the Standing whose places a, b, c are those that the letters of a naming name."""
    check_standing(standing)
    if not isinstance(naming, str) or naming not in NAMINGS:
        raise InvalidNaming(naming)
    numbers = renamed_by(standing.numbers, places_of(naming))
    return Standing(*numbers)
