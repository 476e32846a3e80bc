"""Triples of the numbers of standings, with the places 0, 1, 2 for a, b, c.

The number at a place is that of the tie that goes on from it along the ring; so the
tie that comes to it stands one place back, and the one opposite it one place further.
"""


def place_before(place):
    """Return the place ahead of this one on the ring."""
    return (place + 2) % 3


def place_behind(place):
    """Return the next place on the ring."""
    return (place + 1) % 3


def sizes_of(numbers):
    """Return the triple of the numbers without their signs."""
    return tuple([abs(number) for number in numbers])


def goes_round(numbers):
    """Tell whether the arrows make a ring."""
    return min(numbers) > 0 or max(numbers) < 0


def mark_of(numbers):
    """Return the mark, which no turn changes."""
    x, y, z = sizes_of(numbers)
    squares = x * x + y * y + z * z
    if goes_round(numbers):
        return squares - x * y * z
    return squares + x * y * z


def turned_at(numbers, place):
    """Return the numbers behind one turn at a place."""
    before = place_before(place)
    opposite = place_behind(place)
    coming, going, across = numbers[before], numbers[place], numbers[opposite]
    if coming > 0 and going > 0:
        across = across - coming * going
    elif coming < 0 and going < 0:
        across = across + coming * going
    behind = [across, across, across]
    behind[before] = -coming
    behind[place] = -going
    return tuple(behind)


def opposite_greatest(numbers):
    """Return the place opposite the greatest size, any of them if there are several."""
    sizes = sizes_of(numbers)
    return place_before(sizes.index(max(sizes)))


def place_down(numbers):
    """Return the place whose turn leads down to the foot of the kind, None for what is of the foot.

    A ring with sizes of 2 and more is of the foot just if it is a least ring; then all of
    its kind are rings, since its mark cannot be above 4.
    """
    if not goes_round(numbers) or min(sizes_of(numbers)) < 2:
        return None
    place = opposite_greatest(numbers)
    greatest = abs(numbers[place_behind(place)])
    if 2 * greatest <= numbers[place] * numbers[place_before(place)]:
        return None
    return place


def turns_up(numbers):
    """Return the pairs (numbers, place) of all turns that lead up, away from the foot, and what is behind them."""
    behind = [(turned_at(numbers, place), place) for place in range(3)]
    return [(found, place) for found, place in behind if place_down(found) == place]


def arrows_between(numbers, start, goal):
    """Return how many arrows lead from one place to another one."""
    if goal == place_behind(start):
        return numbers[start]
    return -numbers[goal]


def renamed_by(numbers, old):
    """Return the numbers once the places have the names of a, b, c that stand in old, in this order."""
    return tuple([arrows_between(numbers, old[place], old[place_behind(place)]) for place in range(3)])
