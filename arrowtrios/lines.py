"""Lines of a console, read into a word of what is to be done and what belongs to it."""

from arrowtrios.checks import is_name, is_word
from arrowtrios.limits import GREATEST, MOST_REMAINDER, MOST_TIMES

DIGITS = "0123456789"

# As many as MOST_TIMES has; what is longer is not even looked at.
MOST_DIGITS = 311


def read_line(line):
    """Return a tuple of what a line says, None if a value is no line."""
    if not isinstance(line, str):
        return None
    words = line.split(" ")
    if len(words) not in READING:
        return None
    read = READING[len(words)]
    return read(words)


def read_one(words):
    """Read `undo`."""
    return ("undo",) if words[0] == "undo" else None


def read_two(words):
    """Read `drop A`, `A ringed`, `A least`."""
    first, second = words
    if first == "drop":
        return ("drop", second) if is_name(second) else None
    if not is_name(first):
        return None
    if second == "ringed":
        return ("claim", ("ringed", first))
    return ("least", first) if second == "least" else None


def read_three(words):
    """Read `A kind B`, `A alike B`, `A steps B`."""
    one, word, other = words
    if not is_name(one) or not is_name(other):
        return None
    if word == "steps":
        return ("steps", one, other)
    return ("claim", (word, one, other)) if word in ("kind", "alike") else None


def read_four(words):
    """Read `A turns B N`."""
    one, word, other, last = words
    most = integer_in(last, 0, MOST_TIMES)
    if not is_name(one) or word != "turns" or not is_name(other) or most is None:
        return None
    return ("claim", ("turns", one, other, most))


def read_five(words):
    """Read `A = X Y Z`, `A = B WORD TIMES`."""
    name, sign, *rest = words
    if not is_name(name) or sign != "=":
        return None
    numbers = [integer_in(part, -GREATEST, GREATEST) for part in rest]
    if None not in numbers:
        return ("put", name, numbers)
    other, word, last = rest
    times = integer_in(last, 0, MOST_TIMES)
    if not is_name(other) or not is_word(word) or times is None:
        return None
    return ("lead", name, other, word, times)


def read_six(words):
    """Read `A never M R S T`."""
    name, word, by, *rest = words
    number = integer_in(by, 2, MOST_REMAINDER)
    if not is_name(name) or word != "never" or number is None:
        return None
    rests = tuple([integer_in(part, 0, number - 1) for part in rest])
    return None if None in rests else ("claim", ("never", name, number, rests))


READING = {1: read_one, 2: read_two, 3: read_three, 4: read_four, 5: read_five, 6: read_six}


def integer_in(word, least, most):
    """Return the integer from the least to the most that a word writes just as `str` does, None if there is none."""
    digits = word[1:] if word.startswith("-") else word
    if not 1 <= len(digits) <= MOST_DIGITS or not all([digit in DIGITS for digit in digits]):
        return None
    number = int(word)
    if str(number) != word or not least <= number <= most:
        return None
    return number
