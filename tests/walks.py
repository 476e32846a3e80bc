"""Kinds walked through turn by turn, to compare with."""

import itertools

from tests.plain import turn


def goes_round(numbers):
    """Whether the numbers are those of a ring [6]."""
    return all(number > 0 for number in numbers) or all(number < 0 for number in numbers)


def greatest(numbers):
    """The greatest size."""
    return max(abs(number) for number in numbers)


def plain_mark(numbers):
    """The mark, as [6] tells it."""
    x, y, z = (abs(number) for number in numbers)
    return x * x + y * y + z * z + (-x * y * z if goes_round(numbers) else x * y * z)


def walk(numbers, most):
    """A dict from all that turns lead to over sizes up to the most to the fewest turns that do so."""
    turns = {numbers: 0}
    latest = [numbers]
    while latest:
        further = []
        for now in latest:
            for letter in "abc":
                behind = turn(now, letter)
                if behind not in turns and greatest(behind) <= most:
                    turns[behind] = turns[now] + 1
                    further.append(behind)
        latest = further
    return turns


def is_least_ring(numbers):
    """Whether this is a least ring, as [9] tells it."""
    p, q, r = sorted(abs(number) for number in numbers)
    return goes_round(numbers) and 2 * r <= p * q


def is_of_foot(numbers, ringed):
    """Whether this is of the foot of its kind, as [10] tells it."""
    if ringed:
        return is_least_ring(numbers)
    return not goes_round(numbers) or 1 in (abs(number) for number in numbers)


def free_of(members):
    """The ascending tuple of the free standings among all these of a kind."""
    return tuple(sorted(numbers for numbers in members if not goes_round(numbers)))


def foot_among(members):
    """The ascending tuple of the foot among all these of a kind, free ones among them if there are any."""
    ringed = not free_of(members)
    return tuple(sorted(numbers for numbers in members if is_of_foot(numbers, ringed)))


def form_among(members):
    """The least form of a kind, all of these being of it."""
    free = free_of(members)
    if free:
        return ("free", free[0])
    return ("ring", min(numbers for numbers in members if is_least_ring(numbers)))


def all_numbers(most):
    """All triples with sizes up to the most."""
    return itertools.product(range(-most, most + 1), repeat=3)


def kinds_of_all(most, over):
    """The kinds of all standings with sizes up to the most, each a walk over greater sizes."""
    kinds = []
    seen = set()
    for numbers in all_numbers(most):
        if numbers not in seen:
            kinds.append(walk(numbers, over))
            seen.update(kinds[-1])
    return kinds


def levels(members, many):
    """What turns lead to from a foot: a list of sets, the first one the foot, each with one turn more."""
    told = [set(members)]
    seen = set(members)
    for _ in range(many):
        behind = {turn(numbers, letter) for numbers in told[-1] for letter in "abc"} - seen
        seen |= behind
        told.append(behind)
    return told


def foot_by_walk(numbers):
    """The foot of the kind of these numbers: down by the turns that [10] tells, and then along it."""
    while not is_at_foot(numbers):
        sizes = [abs(number) for number in numbers]
        # Opposite the tie x there is the place c, opposite y a, opposite z b.
        numbers = turn(numbers, "cab"[sizes.index(max(sizes))])
    met = {numbers}
    latest = [numbers]
    while latest:
        behind = {turn(now, letter) for now in latest for letter in "abc"}
        latest = [now for now in behind - met if is_at_foot(now)]
        met.update(latest)
    return met


def is_at_foot(numbers):
    """Whether this is free, a ring with a size 1, or a least ring."""
    return not goes_round(numbers) or 1 in (abs(number) for number in numbers) or is_least_ring(numbers)


def left_in_kind(numbers, number):
    """What the sizes of the standings of a kind leave: the foot, and what is above it closed by x * y - z."""
    foot = foot_by_walk(numbers)
    told = {tuple(abs(size) % number for size in member) for member in foot}
    above = []
    for member in foot:
        for letter in "abc":
            behind = turn(member, letter)
            if behind not in foot:
                above.append((tuple(abs(size) % number for size in behind), letter))
    seen = set()
    while above:
        rests, last = above.pop()
        if (rests, last) in seen:
            continue
        seen.add((rests, last))
        told.add(rests)
        x, y, z = rests
        further = {"a": (x, (z * x - y) % number, z), "b": (x, y, (x * y - z) % number),
                   "c": ((y * z - x) % number, y, z)}
        above.extend((further[letter], letter) for letter in "abc" if letter != last)
    return told


def turns_between(one, other):
    """The fewest turns from the one to the other, None if there are none: for small numbers only."""
    if foot_by_walk(one) != foot_by_walk(other):
        return None
    most = max(greatest(numbers) for numbers in [one, other, *foot_by_walk(one)])
    return walk(one, most)[other]
