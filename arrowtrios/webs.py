"""Webs of two to five places, their turns, what is kept of a place, and how many webs turns lead to."""

from math import gcd

from arrowtrios.checks import is_integer_within
from arrowtrios.errors import InvalidPlace, InvalidRows, NotAWeb, TooGreat, TooMany
from arrowtrios.limits import MOST_PLACES, MOST_WEB, MOST_WEBS


class Web:
    """Places with arrows between them: row i, place j tells how many lead from the place i to the place j."""

    def __init__(self, rows):
        check_rows(rows)
        self._rows = rows

    @property
    def rows(self):
        """Its rows, as they were passed."""
        return self._rows

    @property
    def kept(self):
        """The tuple of what is kept of each place."""
        return tuple([kept_of(row) for row in self._rows])

    def turn(self, place):
        """Return the Web behind a turn at a place."""
        if not is_integer_within(place, 0, len(self._rows) - 1):
            raise InvalidPlace(place)
        rows = rows_behind(self._rows, place)
        if is_too_great(rows):
            raise TooGreat(0)
        return Web(rows)

    def __eq__(self, other):
        return isinstance(other, Web) and self._rows == other._rows


def reach(web):
    """Return how many webs rows of turns lead to from one, itself too."""
    if not isinstance(web, Web):
        raise NotAWeb(web)
    met = {web.rows: True}
    left = [web.rows]
    while left:
        rows = left.pop()
        for place in range(len(rows)):
            behind = rows_behind(rows, place)
            if behind in met:
                continue
            if len(met) == MOST_WEBS or is_too_great(behind):
                raise TooMany(MOST_WEBS)
            met[behind] = True
            left.append(behind)
    return len(met)


def check_rows(rows):
    """Raise InvalidRows if a value is not the rows of a web."""
    if not isinstance(rows, tuple) or len(rows) < 2:
        raise InvalidRows(None)
    for index, row in enumerate(rows):
        if index >= MOST_PLACES or not is_row(row, index, rows):
            raise InvalidRows(index)


def is_row(row, index, rows):
    """Tell whether the row at an index is right by itself and with the rows ahead of it, which are right."""
    if not isinstance(row, tuple) or len(row) != len(rows):
        return False
    if not all([is_integer_within(number, -MOST_WEB, MOST_WEB) for number in row]):
        return False
    # Only 0 is its own negated number, so this looks at the number to the place itself, too.
    return all([row[place] == -rows[place][index] for place in range(index + 1)])


def rows_behind(rows, place):
    """Return the rows behind a turn at a place."""
    return tuple([row_behind(rows, place, start) for start in range(len(rows))])


def row_behind(rows, place, start):
    """Return the row of one place behind a turn at another one, or at this one."""
    return tuple([number_behind(rows, place, start, goal) for goal in range(len(rows))])


def number_behind(rows, place, start, goal):
    """Return how many arrows lead from the start to the goal behind a turn at a place."""
    number = rows[start][goal]
    if place in (start, goal):
        return -number
    coming, going = rows[start][place], rows[place][goal]
    if coming > 0 and going > 0:
        return number + coming * going
    if coming < 0 and going < 0:
        return number - coming * going
    return number


def is_too_great(rows):
    """Tell whether some size is too great for a web."""
    return max([abs(number) for row in rows for number in row]) > MOST_WEB


def kept_of(row):
    """Return the greatest integer that divides all numbers of a row, 0 if all are 0."""
    kept = 0
    for number in row:
        kept = gcd(kept, number)
    return kept
