"""The one way from a standing down to the foot of its kind, however long it is.

Going down changes the greatest size by a factor, so that soon the foot comes, or a tie
of two arrows. Beside such a tie the turns at its two places change the sizes evenly, all
the way down to the foot; they may be more than anybody can count, and are told as one.

A way down is told in legs: pairs (places, times), to be read like the pairs of a row.
"""

from arrowtrios.limits import MOST_LETTERS
from arrowtrios.repeats import behind_even
from arrowtrios.triples import place_before, place_behind, place_down, sizes_of, turned_at


class Way:
    """The way from the foot up to a standing.

    `entry` are the numbers of the standing of the foot, `pair` the two places of its
    `many` even turns, the first one of them first, `above` the places of the turns
    above these.
    """

    def __init__(self, entry, pair, many, above):
        self.entry = entry
        self.pair = pair
        self.many = many
        self.above = above

    def height(self):
        """Return how many turns it has."""
        return self.many + len(self.above)

    def place_at(self, level):
        """Return the place of the turn that leads up from so many turns above the foot."""
        if level < self.many:
            return self.pair[level % 2]
        return self.above[level - self.many]

    def legs_down(self, level):
        """Return the legs that lead from the standing down to so many turns above the foot."""
        legs = legs_once(self.above[max(0, level - self.many):][::-1])
        turns = self.many - level
        if turns >= 2:
            legs.append(([self.place_at(self.many - 1), self.place_at(self.many - 2)], turns // 2))
        if turns > 0 and turns % 2 == 1:
            legs.append(([self.place_at(level)], 1))
        return legs


def legs_once(places):
    """Return the legs that turn at these places once."""
    return [(places[start:start + MOST_LETTERS], 1) for start in range(0, len(places), MOST_LETTERS)]


def legs_back(legs):
    """Return the legs of the way back."""
    return [(places[::-1], times) for places, times in legs[::-1]]


def turns_in(legs):
    """Return how many turns some legs tell."""
    return sum([len(places) * times for places, times in legs])


def way_to(numbers):
    """Return the Way from the foot up to a standing with these numbers."""
    above = []
    place = place_down(numbers)
    while place is not None and min(sizes_of(numbers)) > 2:
        above.append(place)
        numbers = turned_at(numbers, place)
        place = place_down(numbers)
    above = above[::-1]
    if place is None:
        return Way(numbers, (), 0, above)
    partner = partner_of(numbers, place)
    many = even_turns(numbers, place, partner)
    entry = behind_even(numbers, (place, partner), many // 2)
    if many % 2 == 1:
        return Way(turned_at(entry, place), (place, partner), many, above)
    return Way(entry, (partner, place), many, above)


def partner_of(numbers, place):
    """Return the place at the other end of a tie of two arrows, one of whose ends is this place."""
    if abs(numbers[place]) == 2:
        return place_behind(place)
    return place_before(place)


def even_turns(numbers, place, partner):
    """Return how many turns lead down to the foot beside a tie of two arrows between these places.

    Of the other sizes q < r each turn makes 2 * q - r, q, with the same difference, until
    the least one is not above 1.
    """
    greatest = abs(numbers[place_behind(place)])
    difference = greatest - abs(numbers[place_behind(partner)])
    return (greatest - 2) // difference


def common_height(one, other):
    """Return up to which height two Ways are the same."""
    if one.entry != other.entry:
        return 0
    level = min(one.many, other.many) if one.pair == other.pair else 0
    top = min(one.height(), other.height())
    while level < top and one.place_at(level) == other.place_at(level):
        level += 1
    return level
