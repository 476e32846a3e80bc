"""Kinds: whether they are ringed, their least forms and feet, and the least rings with a mark."""

from math import isqrt

from arrowtrios.checks import is_integer_within
from arrowtrios.errors import InvalidNumber
from arrowtrios.feet import foot_of
from arrowtrios.standings import check_standing
from arrowtrios.triples import goes_round, mark_of, sizes_of

LEAST_MARK = -(10 ** 6)
GREATEST_MARK = 3


def is_ringed(standing):
    """Tell whether all standings of the kind are rings."""
    check_standing(standing)
    numbers = standing.numbers
    return goes_round(numbers) and min(sizes_of(numbers)) >= 2 and mark_of(numbers) <= 4


def least(standing):
    """Return the least form of the kind."""
    free = free_ones(standing)
    if free:
        return ("free", free[0])
    return ("ring", foot(standing)[0])


def foot(standing):
    """Return the ascending tuple of the triples of numbers of all standings of the foot of the kind."""
    check_standing(standing)
    return tuple(sorted(foot_of(standing.numbers)))


def same_kind(one, other):
    """Tell whether two standings are of one kind."""
    check_standing(one)
    check_standing(other)
    return least(one) == least(other)


def free_ones(standing):
    """Return the ascending tuple of the triples of numbers of all free standings of the kind."""
    return tuple([numbers for numbers in foot(standing) if not goes_round(numbers)])


def rings_of_mark(mark):
    """Return the ascending tuple of the triples of sizes, the least one first, of all least rings with a mark.

    Among p <= q <= r with 2 * r <= p * q the mark is greatest for r = q, where it is
    p * p - (p - 2) * q * q, and then for q = p. So only few p and q are left to be tried;
    a p of 2 has the mark 4 alone.
    """
    if not is_integer_within(mark, LEAST_MARK, GREATEST_MARK):
        raise InvalidNumber(mark)
    found = []
    p = 3
    while p * p - (p - 2) * p * p >= mark:
        q = p
        while p * p - (p - 2) * q * q >= mark:
            r = greatest_size(p, q, mark)
            if r is not None:
                found.append((p, q, r))
            q += 1
        p += 1
    return tuple(found)


def greatest_size(p, q, mark):
    """Return the size r with which p and q have the mark in a ring, and 2 * r <= p * q; None if there is none."""
    # r * r - p * q * r + p * p + q * q is the mark just if 2 * r is p * q less the root of this.
    square = p * p * q * q - 4 * (p * p + q * q - mark)
    if square < 0:
        return None
    root = isqrt(square)
    if root * root != square:
        return None
    # p * q and the root are both even or both odd, as their squares are.
    return (p * q - root) // 2
