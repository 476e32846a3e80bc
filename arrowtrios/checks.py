"""Checks of values that callers give, for all modules."""

from arrowtrios.errors import InvalidNumber, InvalidRemainders, InvalidTurns
from arrowtrios.limits import MOST_LETTERS, MOST_PAIRS, MOST_REMAINDER, MOST_TIMES
from arrowtrios.words import PLACE_OF

# A name of a book has one to so many of these.
SIGNS = "abcdefghijklmnopqrstuvwxyz"
MOST_SIGNS = 8


def is_integer(value):
    """Tell whether a value is an integer; True and False are none."""
    return isinstance(value, int) and not isinstance(value, bool)


def is_integer_within(value, least, most):
    """Tell whether a value is an integer from the least to the most."""
    return is_integer(value) and least <= value <= most


def is_worded(value, forms):
    """Tell whether a value is a tuple that begins with a word, with as many elements as some form tells.

    Forms are pairs (word, how many elements).
    """
    if not isinstance(value, tuple) or not value or not isinstance(value[0], str):
        return False
    return (value[0], len(value)) in forms


def is_name(value):
    """Tell whether a value is a name of a book."""
    if not isinstance(value, str) or not 1 <= len(value) <= MOST_SIGNS:
        return False
    return all([sign in SIGNS for sign in value])


def is_word(value):
    """Tell whether a value is a word of a row of turns."""
    if not isinstance(value, str) or not 1 <= len(value) <= MOST_LETTERS:
        return False
    return all([letter in PLACE_OF for letter in value])


def is_pair_of_turns(value):
    """Tell whether a value is a pair of a row of turns."""
    if not isinstance(value, tuple) or len(value) != 2:
        return False
    return is_word(value[0]) and is_integer_within(value[1], 0, MOST_TIMES)


def is_turns(value):
    """Tell whether a value is a row of turns."""
    if not isinstance(value, tuple) or len(value) > MOST_PAIRS:
        return False
    return all([is_pair_of_turns(pair) for pair in value])


def is_number(value):
    """Tell whether a value is an integer that remainders are told by."""
    return is_integer_within(value, 2, MOST_REMAINDER)


def is_triple_within(value, least, most):
    """Tell whether a value is a triple of integers from the least to the most."""
    if not isinstance(value, tuple) or len(value) != 3:
        return False
    return all([is_integer_within(number, least, most) for number in value])


def is_rests(value, number):
    """Tell whether a value is a triple of remainders by a number."""
    return is_triple_within(value, 0, number - 1)


def check_turns(turns):
    """Raise InvalidTurns if a value is no row of turns."""
    if not isinstance(turns, tuple):
        raise InvalidTurns(None)
    for index, pair in enumerate(turns):
        if index >= MOST_PAIRS or not is_pair_of_turns(pair):
            raise InvalidTurns(index)


def check_number(number):
    """Raise InvalidNumber if a value is no integer that remainders are told by."""
    if not is_number(number):
        raise InvalidNumber(number)


def check_rests(rests, number):
    """Raise InvalidRemainders if a value is no triple of remainders by a number."""
    if not isinstance(rests, tuple) or len(rests) < 3:
        raise InvalidRemainders(None)
    for index, rest in enumerate(rests):
        if index >= 3 or not is_integer_within(rest, 0, number - 1):
            raise InvalidRemainders(index)
