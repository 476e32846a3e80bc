"""Rows of turns with the fewest turns: to the foot, to another standing, to a free one."""

from arrowtrios.feet import ways_from
from arrowtrios.kinds import is_ringed
from arrowtrios.standings import check_standing
from arrowtrios.triples import goes_round, opposite_greatest
from arrowtrios.ways import common_height, legs_back, legs_once, turns_in, way_to
from arrowtrios.words import word_of


def descent(standing):
    """Return a row of turns with the fewest turns that leads to the foot of the kind."""
    check_standing(standing)
    return row_of(way_to(standing.numbers).legs_down(0))


def road(one, other):
    """Return a row of turns with the fewest turns from one to the other, None if they are not of one kind."""
    check_standing(one)
    check_standing(other)
    legs = legs_between(one.numbers, other.numbers)
    return None if legs is None else row_of(legs)


def steps(one, other):
    """Return with how many turns, at least, one leads to the other, None if they are not of one kind."""
    check_standing(one)
    check_standing(other)
    legs = legs_between(one.numbers, other.numbers)
    return None if legs is None else turns_in(legs)


def freeing(standing):
    """Return a row of turns with the fewest turns that leads to a free standing, None if the kind is ringed."""
    if is_ringed(standing):
        return None
    way = way_to(standing.numbers)
    legs = way.legs_down(0)
    if goes_round(way.entry):
        # The ring has a size 1, so that its greatest size becomes the difference of the
        # greater two, of the other sense, or 0.
        legs.append(([opposite_greatest(way.entry)], 1))
    return row_of(legs)


def row_of(legs):
    """Return the row of turns that tells some legs."""
    return tuple([(word_of(places), times) for places, times in legs])


def legs_between(one, other):
    """Return the legs with the fewest turns between standings with these numbers, None if there are none.

    Both stand in trees that hang on the foot. So it leads down to where both ways down
    meet, or else to the foot, along it, and up. Along the foot at most nine turns are
    needed, which are one leg; so no leg ends at a member that is too great for a standing.
    """
    start, goal = way_to(one), way_to(other)
    ways = ways_from(start.entry)
    if goal.entry not in ways:
        return None
    level = common_height(start, goal)
    between = legs_once(ways[goal.entry])
    return start.legs_down(level) + between + legs_back(goal.legs_down(level))
