"""The checker: whether a paper proves a claim about standings, whoever wrote it."""

from arrowtrios.checks import is_integer_within, is_number, is_rests, is_triple_within, is_turns, is_worded
from arrowtrios.feet import foot_of
from arrowtrios.kinds import least
from arrowtrios.limits import GREATEST, MOST_TABLE
from arrowtrios.repeats import behind_pair
from arrowtrios.rests import pairs_behind, rests_of
from arrowtrios.standings import Standing
from arrowtrios.triples import goes_round, place_down, sizes_of, turns_up

FORMS = (("ringed", 2), ("freed", 2), ("kind", 3), ("parted", 3), ("never", 4))


def accepts(claim, paper):
    """Tell whether a value is a claim for the checker, and another one a paper for it."""
    if not is_checked_claim(claim):
        return False
    accept = ACCEPTING[claim[0]]
    return accept(claim, paper)


def is_checked_claim(value):
    """Tell whether a value is a claim for the checker."""
    if not is_worded(value, FORMS) or not is_numbers(value[1]):
        return False
    if value[0] in ("kind", "parted"):
        return is_numbers(value[2])
    if value[0] == "never":
        return is_number(value[2]) and is_rests(value[3], value[2])
    return True


def is_numbers(value):
    """Tell whether a value is a triple of the numbers of a standing."""
    return is_triple_within(value, -GREATEST, GREATEST)


def accepts_ringed(claim, paper):
    """Tell whether a paper leads to a least ring."""
    behind = behind_row(claim[1], paper)
    return behind is not None and is_least_ring(behind)


def accepts_freed(claim, paper):
    """Tell whether a paper leads to a free standing."""
    behind = behind_row(claim[1], paper)
    return behind is not None and not goes_round(behind)


def accepts_kind(claim, paper):
    """Tell whether a paper leads from the one to the other."""
    return behind_row(claim[1], paper) == claim[2]


def accepts_parted(claim, paper):
    """Tell whether a paper leads to two feet with unlike least forms."""
    if not is_pair(paper):
        return False
    one = behind_row(claim[1], paper[0])
    other = behind_row(claim[2], paper[1])
    if one is None or other is None or not is_of_foot(one) or not is_of_foot(other):
        return False
    return least(Standing(*one)) != least(Standing(*other))


def accepts_never(claim, paper):
    """Tell whether a paper leads to the foot, and has a table of all that comes above it, without the remainders."""
    number, rests = claim[2], claim[3]
    if not is_pair(paper) or not is_table(paper[1], number):
        return False
    behind = behind_row(claim[1], paper[0])
    if behind is None or not is_of_foot(behind):
        return False
    members = foot_of(behind)
    # A dict finds a pair at once, where a tuple of thousands would be gone through each time.
    table = {pair: True for pair in paper[1]}
    if rests in [rests_of(numbers, number) for numbers in members] or rests in [left for left, _ in table]:
        return False
    needed = [(rests_of(found, number), place) for numbers in members for found, place in turns_up(numbers)]
    for known in table:
        needed.extend(pairs_behind(known, number))
    return all([asked in table for asked in needed])


ACCEPTING = {
    "ringed": accepts_ringed,
    "freed": accepts_freed,
    "kind": accepts_kind,
    "parted": accepts_parted,
    "never": accepts_never,
}


def behind_row(numbers, row):
    """Return the numbers behind a row of turns, None if it is none, or if a size is too great behind a pair of it."""
    if not is_turns(row):
        return None
    for word, times in row:
        numbers = behind_pair(numbers, word, times)
        if numbers is None:
            return None
    return numbers


def is_least_ring(numbers):
    """Tell whether these are the numbers of a least ring."""
    p, q, r = sorted(sizes_of(numbers))
    return goes_round(numbers) and 2 * r <= p * q


def is_of_foot(numbers):
    """Tell whether these are the numbers of a standing of the foot of its kind."""
    return place_down(numbers) is None


def is_pair(value):
    """Tell whether a value is a pair."""
    return isinstance(value, tuple) and len(value) == 2


def is_table(value, number):
    """Tell whether a value is an ascending tuple, not too long, of pairs of remainders by a number and a place."""
    if not isinstance(value, tuple) or len(value) > MOST_TABLE:
        return False
    if not all([is_pair_of_table(pair, number) for pair in value]):
        return False
    return all([value[index] < value[index + 1] for index in range(len(value) - 1)])


def is_pair_of_table(value, number):
    """Tell whether a value is a pair of remainders by a number and a place."""
    return is_pair(value) and is_rests(value[0], number) and is_integer_within(value[1], 0, 2)
