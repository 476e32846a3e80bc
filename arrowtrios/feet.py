"""The foot of a kind: its members, and the ways between them.

At the foot a size may be above 10 ** 300, since the kind is told as if numbers had no
bound; a member like this is counted, and led through, like any other one.
"""

from arrowtrios.triples import place_down, turned_at
from arrowtrios.ways import way_to


def foot_of(numbers):
    """Return the list of the numbers of all members of the foot."""
    return list(ways_from(way_to(numbers).entry))


def ways_from(entry):
    """Return a dict from all members of the foot to the places of the fewest turns that lead there from this one."""
    ways = {entry: []}
    latest = [entry]
    while latest:
        further = []
        for numbers in latest:
            for place in range(3):
                behind = turned_at(numbers, place)
                if behind not in ways and place_down(behind) is None:
                    ways[behind] = ways[numbers] + [place]
                    further.append(behind)
        latest = further
    return ways
