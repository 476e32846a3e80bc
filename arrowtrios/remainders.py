"""What the sizes of the standings of a kind leave by an integer."""

from arrowtrios.checks import check_number, check_rests
from arrowtrios.feet import foot_of
from arrowtrios.rests import rests_above, rests_of
from arrowtrios.standings import check_standing


def remainders(standing, number):
    """Return the ascending tuple of all triples of remainders by a number that the kind leaves."""
    check_standing(standing)
    check_number(number)
    members = foot_of(standing.numbers)
    left = [rests_of(numbers, number) for numbers in members]
    left.extend([rests for rests, _ in rests_above(members, number)])
    return tuple(sorted(set(left)))


def leaves(standing, number, rests):
    """Tell whether the kind leaves these remainders by a number."""
    check_standing(standing)
    check_number(number)
    check_rests(rests, number)
    return rests in remainders(standing, number)


def at_ties(standing, number):
    """Return, for each of the three ties, the ascending tuple of what its sizes leave by a number in the kind."""
    left = remainders(standing, number)
    return tuple([tuple(sorted(set([rests[tie] for rests in left]))) for tie in range(3)])
