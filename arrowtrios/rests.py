"""Remainders of the sizes above the foot, which the turns lead on by themselves.

Above the foot each turn at a place other than the last one leads up, and makes x * y - z
of the size z opposite it. So the remainders and the last place tell all further ones.
"""

from arrowtrios.triples import place_before, place_behind, sizes_of, turns_up


def rests_of(numbers, number):
    """Return the triple of what the sizes leave by a number."""
    return tuple([size % number for size in sizes_of(numbers)])


def rests_above(members, number):
    """Return the ascending list of all pairs (remainders, last place) that come above these members of the foot."""
    seen = set()
    left = [(rests_of(behind, number), place) for numbers in members for behind, place in turns_up(numbers)]
    while left:
        pair = left.pop()
        if pair not in seen:
            seen.add(pair)
            left.extend(pairs_behind(pair, number))
    return sorted(seen)


def pairs_behind(pair, number):
    """Return the list of the pairs one turn further up."""
    rests, last = pair
    return [(rests_turned(rests, place, number), place) for place in range(3) if place != last]


def rests_turned(rests, place, number):
    """Return the remainders behind a turn up at a place."""
    opposite = place_behind(place)
    behind = list(rests)
    behind[opposite] = (rests[place] * rests[place_before(place)] - rests[opposite]) % number
    return tuple(behind)
