"""The checker once more, with plain loops in the document's own words, for rows with few turns; and other papers."""

from tests.plain import GREATEST, MOST_TIMES, loop, turn
from tests.walks import foot_by_walk, form_among, is_at_foot, is_least_ring, goes_round

LENGTHS = {"ringed": 2, "freed": 2, "kind": 3, "parted": 3, "never": 4}


def is_int(value, least, most):
    """Whether this is an integer from the least to the most."""
    return type(value) is int and least <= value <= most


def is_triple(value, least, most):
    """Whether this is a triple of integers from the least to the most."""
    return type(value) is tuple and len(value) == 3 and all(is_int(number, least, most) for number in value)


def is_row(value):
    """Whether this is a row of turns."""
    if type(value) is not tuple or len(value) > 200:
        return False
    for pair in value:
        if type(pair) is not tuple or len(pair) != 2 or type(pair[0]) is not str or not is_int(pair[1], 0, MOST_TIMES):
            return False
        if not 1 <= len(pair[0]) <= 12 or any(letter not in "abc" for letter in pair[0]):
            return False
    return True


def led(numbers, row):
    """The numbers behind a row of turns, None if there are none."""
    if not is_row(row):
        return None
    for word, times in row:
        numbers = loop(numbers, word, times)
        if max(abs(number) for number in numbers) > GREATEST:
            return None
    return numbers


def is_claim(claim):
    """Whether this is a claim for the checker."""
    if type(claim) is not tuple or len(claim) < 2 or type(claim[0]) is not str:
        return False
    if LENGTHS.get(claim[0]) != len(claim):
        return False
    if not is_triple(claim[1], -GREATEST, GREATEST):
        return False
    if len(claim) == 3:
        return is_triple(claim[2], -GREATEST, GREATEST)
    return len(claim) == 2 or is_int(claim[2], 2, 12) and is_triple(claim[3], 0, claim[2] - 1)


def plainly_accepts(claim, paper):
    """Whether the checker has to accept a paper for a claim."""
    if not is_claim(claim):
        return False
    word, one, *others = claim
    if word in ("ringed", "freed", "kind"):
        behind = led(one, paper)
        if behind is None:
            return False
        if word == "kind":
            return behind == others[0]
        return is_least_ring(behind) if word == "ringed" else not goes_round(behind)
    if type(paper) is not tuple or len(paper) != 2:
        return False
    if word == "parted":
        ends = led(one, paper[0]), led(others[0], paper[1])
        if None in ends or not all(map(is_at_foot, ends)):
            return False
        return form_among(foot_by_walk(ends[0])) != form_among(foot_by_walk(ends[1]))
    return has_table(led(one, paper[0]), *others, paper[1])


def has_table(behind, number, rests, table):
    """Whether a table shows that a kind, with this standing of its foot, does not leave these remainders."""
    if behind is None or not is_at_foot(behind) or type(table) is not tuple or len(table) > 10000:
        return False
    for pair in table:
        if type(pair) is not tuple or len(pair) != 2:
            return False
        if not is_triple(pair[0], 0, number - 1) or not is_int(pair[1], 0, 2):
            return False
    if list(table) != sorted(set(table)):
        return False
    foot = foot_by_walk(behind)
    left = [tuple(abs(size) % number for size in member) for member in foot] + [found for found, _ in table]
    if rests in left:
        return False
    pairs = set(table)
    return all(pair in pairs for pair in needed(foot, number)) and all(
        pair in pairs for found, place in table for pair in behind_pair(found, place, number))


def needed(foot, number):
    """The pairs of a table that the foot asks for."""
    for member in foot:
        for place, letter in enumerate("abc"):
            behind = turn(member, letter)
            if behind not in foot:
                yield tuple(abs(size) % number for size in behind), place


def behind_pair(rests, place, number):
    """The pairs of a table that a pair asks for."""
    x, y, z = rests
    further = [(x, (z * x - y) % number, z), (x, y, (x * y - z) % number), ((y * z - x) % number, y, z)]
    return [(further[other], other) for other in range(3) if other != place]


def rows_otherwise(row):
    """Values that differ from a row of turns in one thing."""
    yield from (None, True, 0, "ab", b"ab", [], {}, list(row), (row,), (row, row), row + row,
                [list(pair) for pair in row])
    yield from (row + (pair,) for pair in [("a", 1), ("b", 1), ("c", 1), ("a", 2), ("bb", 1), ("abc", 0), ("ab", 1),
                                           ("a", True), ("a", -1), ("d", 1), ("", 1), ("a" * 13, 1), ("a", None), "a1",
                                           ("a",),
                                           ("a", 1, 1), ["a", 1], ("a", MOST_TIMES + 1)])
    yield from ((pair,) + row for pair in [("a", 1), ("b", 1), ("c", 1), ("cc", 1)])
    for at, (word, times) in enumerate(row):
        yield row[:at] + row[at + 1:]
        yield row[:at] + ((word, times + 1),) + row[at + 1:]
        yield row[:at] + ((word[::-1], times),) + row[at + 1:]
        yield row[:at] + ((word + word[-1], times),) + row[at + 1:]
        yield row[:at] + ([word, times],) + row[at + 1:]


def tables_otherwise(table, number, rests):
    """Values that differ from a table in one thing."""
    yield from (None, True, 0, [], list(table), table[::-1] if len(table) > 1 else [table], (table,), set(),
                {pair: 1 for pair in table})
    pairs = [((x, y, z), place) for x in (0, 1, number - 1) for y in (0, 1) for z in (0, number - 1)
             for place in range(3)]
    yield from (tuple(sorted({*table, pair})) for pair in pairs)
    yield from (tuple(sorted({*table, (rests, place)})) for place in range(3))
    yield from (table + (pair,) for pair in [((number,) * 3, 0), ((number - 1,) * 3, 3),
                                             ((number - 1, number - 1, True), 2), None, (),
                                             ((number, number, number),), [(9, 9, 9), 2], ((9, 9, 9), 2, 0),
                                             ((number,) * 4, 2)])
    for at, (found, place) in enumerate(table):
        yield table[:at] + table[at + 1:]
        if at % 5 == 0:
            yield table[:at + 1] + table[at:]
            yield table[:at] + ((found, (place + 1) % 3),) + table[at + 1:]
            yield table[:at] + ((found, place == 1),) + table[at + 1:]
            yield table[:at] + ((list(found), place),) + table[at + 1:]
            yield table[:at] + ([found, place],) + table[at + 1:]
            yield table[:at] + (found,) + table[at + 1:]
            yield table[:at] + table[at + 1:] + table[at:at + 1]
