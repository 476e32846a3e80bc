"""Claims for the checker about given standings, with papers that it accepts."""

from arrowtrios.feet import foot_of
from arrowtrios.kinds import is_ringed
from arrowtrios.remainders import leaves
from arrowtrios.rests import rests_above
from arrowtrios.roads import descent, freeing, road


def certify_ring(standing):
    """Return the claim that the kind is ringed, or that it is not, with a paper."""
    if is_ringed(standing):
        return ("ringed", standing.numbers), descent(standing)
    return ("freed", standing.numbers), freeing(standing)


def certify_kind(one, other):
    """Return the claim that two standings are of one kind, or that they are not, with a paper."""
    row = road(one, other)
    if row is None:
        return ("parted", one.numbers, other.numbers), (descent(one), descent(other))
    return ("kind", one.numbers, other.numbers), row


def certify_never(standing, number, rests):
    """Return the claim that the kind does not leave these remainders, with a paper; None if it does."""
    if leaves(standing, number, rests):
        return None
    table = tuple(rests_above(foot_of(standing.numbers), number))
    return ("never", standing.numbers, number, rests), (descent(standing), table)
