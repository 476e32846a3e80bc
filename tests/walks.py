"""Kinds walked through turn by turn, to compare with."""

import itertools

from tests.plain import turn


def goes_round(numbers):
    """Whether the numbers are those of a ring [6]."""
    return all(number > 0 for number in numbers) or all(number < 0 for number in numbers)


def greatest(numbers):
    """The greatest size."""
    return max(abs(number) for number in numbers)


def plain_mark(numbers):
    """The mark, as [6] tells it."""
    x, y, z = (abs(number) for number in numbers)
    return x * x + y * y + z * z + (-x * y * z if goes_round(numbers) else x * y * z)


def walk(numbers, most):
    """A dict from all that turns lead to over sizes up to the most to the fewest turns that do so."""
    turns = {numbers: 0}
    latest = [numbers]
    while latest:
        further = []
        for now in latest:
            for letter in "abc":
                behind = turn(now, letter)
                if behind not in turns and greatest(behind) <= most:
                    turns[behind] = turns[now] + 1
                    further.append(behind)
        latest = further
    return turns


def is_least_ring(numbers):
    """Whether this is a least ring, as [9] tells it."""
    p, q, r = sorted(abs(number) for number in numbers)
    return goes_round(numbers) and 2 * r <= p * q


def is_of_foot(numbers, ringed):
    """Whether this is of the foot of its kind, as [10] tells it."""
    if ringed:
        return is_least_ring(numbers)
    return not goes_round(numbers) or 1 in (abs(number) for number in numbers)


def free_of(members):
    """The ascending tuple of the free standings among all these of a kind."""
    return tuple(sorted(numbers for numbers in members if not goes_round(numbers)))


def foot_among(members):
    """The ascending tuple of the foot among all these of a kind, free ones among them if there are any."""
    ringed = not free_of(members)
    return tuple(sorted(numbers for numbers in members if is_of_foot(numbers, ringed)))


def form_among(members):
    """The least form of a kind, all of these being of it."""
    free = free_of(members)
    if free:
        return ("free", free[0])
    return ("ring", min(numbers for numbers in members if is_least_ring(numbers)))


def all_numbers(most):
    """All triples with sizes up to the most."""
    return itertools.product(range(-most, most + 1), repeat=3)


def kinds_of_all(most, over):
    """The kinds of all standings with sizes up to the most, each a walk over greater sizes."""
    kinds = []
    seen = set()
    for numbers in all_numbers(most):
        if numbers not in seen:
            kinds.append(walk(numbers, over))
            seen.update(kinds[-1])
    return kinds


def levels(members, many):
    """What turns lead to from a foot: a list of sets, the first one the foot, each with one turn more."""
    told = [set(members)]
    seen = set(members)
    for _ in range(many):
        behind = {turn(numbers, letter) for numbers in told[-1] for letter in "abc"} - seen
        seen |= behind
        told.append(behind)
    return told
