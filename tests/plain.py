"""Turns made one by one, in the document's own words, to compare with; and other help for tests."""

from arrowtrios.errors import TooGreat
from arrowtrios.standings import Standing, turned

GREATEST = int("1" + "0" * 300)
MOST_TIMES = int("1" + "0" * 310)

# At a place: where u, v and w of the document stand in the triple.
TIES = {"a": (2, 0, 1), "b": (0, 1, 2), "c": (1, 2, 0)}

# Values that are no integers, for arguments that take integers.
NO_INTEGERS = (True, False, None, "3", "", b"3", (), (3,), [], [3], {}, {3: 3}, object(), Standing(3, 4, 5), int)


def turn(numbers, letter):
    """The numbers behind one turn, as [7] tells it."""
    at_u, at_v, at_w = TIES[letter]
    u, v, w = numbers[at_u], numbers[at_v], numbers[at_w]
    if u > 0 and v > 0:
        w = w - u * v
    elif u < 0 and v < 0:
        w = w + u * v
    behind = [0, 0, 0]
    behind[at_u], behind[at_v], behind[at_w] = -u, -v, w
    return tuple(behind)


def loop(numbers, word, times=1):
    """The numbers behind so many times a word, turn by turn."""
    for _ in range(times):
        for letter in word:
            numbers = turn(numbers, letter)
    return numbers


def loop_row(numbers, row):
    """The numbers behind a row of turns, turn by turn."""
    for word, times in row:
        numbers = loop(numbers, word, times)
    return numbers


def too_great_at(numbers, row, greatest=GREATEST):
    """The index of the first pair behind which a size is above the greatest, None if there is none."""
    for index, (word, times) in enumerate(row):
        numbers = loop(numbers, word, times)
        if max(abs(number) for number in numbers) > greatest:
            return index
    return None


def round_of(numbers, word, most=100):
    """After how many times of the word the numbers are those at the beginning again, None if not soon."""
    now = numbers
    for times in range(1, most + 1):
        now = loop(now, word)
        if now == numbers:
            return times
        if max(abs(number) for number in now) > GREATEST * GREATEST:
            return None
    return None


def evenly(numbers, word, times):
    """The numbers behind so many times a word that soon changes them by the same amount each time."""
    begun = 40
    one, two, three = loop(numbers, word, begun), loop(numbers, word, begun + 1), loop(numbers, word, begun + 2)
    change = [b - a for a, b in zip(one, two)]
    assert change == [b - a for a, b in zip(two, three)]
    return tuple(number + (times - begun) * step for number, step in zip(one, change))


def outcome(numbers, row):
    """What `turned` gives: the numbers, or the index of TooGreat as a string."""
    try:
        return turned(Standing(*numbers), row).numbers
    except TooGreat as error:
        return f"too great at {error.index}"
