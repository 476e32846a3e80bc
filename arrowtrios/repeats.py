"""What is behind a word of turns that is repeated, however often.

A way of turns without doubles goes down to the foot of the kind, stays there for a
while, and goes up from it, and then up only [10]. Therefore a few steps decide:
- At the foot there are finitely many standings, so a repeated word soon comes back to
  where it began, or leaves the foot upward.
- Off the foot each turn changes the greatest size by a factor, so the way soon is at
  the foot, or beyond what is let. Only turns at two places in turn, with two arrows
  between them, go down or up evenly; these are done at one stroke.
"""

from arrowtrios.limits import GREATEST
from arrowtrios.triples import goes_round, place_behind, place_down, sizes_of, turned_at
from arrowtrios.words import places_of, root_of, way_and_core, without_doubles


def behind_pair(numbers, word, times):
    """Return the numbers behind so many times a word, None if one of their sizes is too great."""
    way, core = way_and_core(without_doubles(places_of(word)))
    if len(core) == 1:
        # Two turns at one place change nothing, so only whether there is an odd one counts.
        times = times % 2
    if times == 0 or not core:
        return numbers
    found = behind_way(numbers, way)
    if found is not None:
        root = root_of(core)
        found = behind_repeated(found, root, times * (len(core) // len(root)))
    if found is not None:
        found = behind_way(found, way[::-1])
    if found is None or max(sizes_of(found)) > GREATEST:
        return None
    return found


def behind_way(numbers, places):
    """Return the numbers behind a way, None once no further way without doubles leads back to what is let."""
    for place in places:
        numbers = turned_at(numbers, place)
        if is_beyond(numbers, place):
            return None
    return numbers


def is_beyond(numbers, place):
    """Tell whether the turn at this place led up, to a size that is too great.

    At the foot a size may be too great for a while, and yet small again behind it.
    """
    return abs(numbers[place_behind(place)]) > GREATEST and place_down(numbers) == place


def behind_repeated(numbers, core, times):
    """Return the numbers behind so many times a core, None once they are too great for good."""
    found = numbers
    left = times
    while left > 0:
        many = even_repeats(found, core, left)
        if many > 0:
            found = behind_even(found, core, many)
            left = left - many
            continue
        found = behind_way(found, core)
        if found is None:
            return None
        left = left - 1
        if found == numbers:
            # Whole rounds change nothing.
            left = left % (times - left)
    return found


def even_repeats(numbers, core, most):
    """Return how many times a core, at most so many, keeps a ring a ring and changes its sizes evenly.

    This is so for turns at two places in turn, with two arrows between them: of the two
    other sizes p, q the turn opposite p makes it 2 * q - p, which is q and once more the
    difference q - p. It ends where a size would not be above 0.
    """
    if len(core) != 2 or not goes_round(numbers) or arrows_in(numbers, core) != 2:
        return 0
    first, second = core
    last = abs(numbers[place_behind(second)])
    difference = last - abs(numbers[place_behind(first)])
    if difference >= 0:
        return most
    return min(most, (last - 1) // -difference // 2)


def arrows_in(numbers, core):
    """Return the size of the tie between the two places of a core."""
    first, second = core
    third = 3 - first - second
    return abs(numbers[place_behind(third)])


def behind_even(numbers, core, many):
    """Return the numbers behind so many times a core that changes the sizes evenly."""
    opposite_first, opposite_second = [place_behind(place) for place in core]
    # An even number of turns leaves the sense of the ring as it is, so the numbers, with
    # their signs, change just as the sizes do.
    change = 2 * many * (numbers[opposite_second] - numbers[opposite_first])
    behind = list(numbers)
    behind[opposite_first] += change
    behind[opposite_second] += change
    return tuple(behind)
