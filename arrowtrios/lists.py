"""Lists of the standings of a kind up to a bound, and how many there are above its foot."""

from arrowtrios.checks import is_integer_within
from arrowtrios.errors import InvalidBound, TooMany
from arrowtrios.feet import foot_of
from arrowtrios.limits import MOST_BOUND, MOST_LISTED
from arrowtrios.standings import check_standing
from arrowtrios.triples import sizes_of, turns_up

MOST_TURNS = 1000


def standings_to(standing, bound):
    """Return the ascending tuple of the triples of numbers of all standings of the kind with sizes up to a bound."""
    check_standing(standing)
    check_bound(bound, MOST_BOUND)
    within, _ = within_and_above(standing.numbers, bound)
    return tuple(sorted(within))


def least_above(standing, bound):
    """Return the least size above a bound that comes in the kind, None if there is none."""
    check_standing(standing)
    check_bound(bound, MOST_BOUND)
    _, above = within_and_above(standing.numbers, bound)
    return min([size for numbers in above for size in sizes_of(numbers) if size > bound], default=None)


def many_at(standing, turns):
    """Return how many standings of the kind need just so many turns, at least, from its foot."""
    check_standing(standing)
    check_bound(turns, MOST_TURNS)
    members = foot_of(standing.numbers)
    if turns == 0:
        return len(members)
    many = sum([len(turns_up(numbers)) for numbers in members])
    for _ in range(turns - 1):
        # From each standing above the foot two turns lead up.
        many = 2 * many
    return many


def check_bound(bound, most):
    """Raise InvalidBound if a value is no integer from 0 to the most."""
    if not is_integer_within(bound, 0, most):
        raise InvalidBound(bound)


def within_and_above(numbers, bound):
    """Return the lists of all standings of the kind with sizes up to a bound, and of those next to them.

    The next ones are the members of the foot, and what is one turn above a standing
    within the bound, that are not within it. Up from there the greatest size only grows,
    so what is further up has no less size above the bound.
    """
    within, above = [], []
    left = foot_of(numbers)
    while left:
        found = left.pop()
        if max(sizes_of(found)) > bound:
            above.append(found)
            continue
        within.append(found)
        if len(within) > MOST_LISTED:
            raise TooMany(MOST_LISTED)
        left.extend([behind for behind, _ in turns_up(found)])
    return within, above
