"""Claims of a book: what is one, the names in it, and whether it holds."""

from arrowtrios.checks import is_integer_within, is_number, is_rests, is_worded
from arrowtrios.kinds import is_ringed, same_kind
from arrowtrios.limits import MOST_TIMES
from arrowtrios.naming import naming_between
from arrowtrios.remainders import leaves
from arrowtrios.roads import steps

FORMS = (("kind", 3), ("alike", 3), ("ringed", 2), ("turns", 4), ("never", 4))

# How many names stand behind each word.
NAMES = {"kind": 2, "alike": 2, "ringed": 1, "turns": 2, "never": 1}


def is_claim(value):
    """Tell whether a value has a form of a claim, whatever stands in the places of names."""
    if not is_worded(value, FORMS):
        return False
    if value[0] == "turns":
        return is_integer_within(value[3], 0, MOST_TIMES)
    if value[0] == "never":
        return is_number(value[2]) and is_rests(value[3], value[2])
    return True


def names_in(claim):
    """Return the tuple of the names in a claim."""
    return claim[1:1 + NAMES[claim[0]]]


def holds(claim, standings):
    """Tell whether a claim holds, with a dict of the standings by their names."""
    word = claim[0]
    one = standings[claim[1]]
    if word == "ringed":
        return is_ringed(one)
    if word == "never":
        return not leaves(one, claim[2], claim[3])
    other = standings[claim[2]]
    if word == "kind":
        return same_kind(one, other)
    if word == "alike":
        return naming_between(one, other) is not None
    fewest = steps(one, other)
    return fewest is not None and fewest <= claim[3]
