"""Webs reckoned with arrow by arrow, and by sums, to compare with."""

import itertools


def rows_of(many, numbers):
    """The rows of a web with so many places, from the numbers of the pairs of places in order."""
    rows = [[0] * many for _ in range(many)]
    for (start, goal), number in zip(itertools.combinations(range(many), 2), numbers, strict=True):
        rows[start][goal], rows[goal][start] = number, -number
    return tuple(map(tuple, rows))


def all_rows(many, most):
    """The rows of all webs with so many places and sizes up to the most."""
    for numbers in itertools.product(range(-most, most + 1), repeat=many * (many - 1) // 2):
        yield rows_of(many, numbers)


def arrow_by_arrow(rows, place):
    """The rows behind a turn, with a list of arrows one by one: for small numbers only."""
    many = range(len(rows))
    arrows = [(start, goal) for start in many for goal in many for _ in range(max(0, rows[start][goal]))]
    through = [(start, goal) for start, middle in arrows if middle == place
               for other, goal in arrows if other == place]
    kept = [(start, goal) for start, goal in arrows if place not in (start, goal)]
    turned = [(goal, start) for start, goal in arrows if place in (start, goal)]
    behind = [[0] * len(rows) for _ in many]
    for start, goal in kept + turned + through:
        behind[start][goal] += 1
        behind[goal][start] -= 1
    return tuple(map(tuple, behind))


def by_sums(rows, place):
    """The rows behind a turn, by one sum for each number, for numbers of any size."""
    behind = []
    for start, row in enumerate(rows):
        behind.append(tuple(
            -number if place in (start, goal)
            else number + (abs(row[place]) * rows[place][goal] + row[place] * abs(rows[place][goal])) // 2
            for goal, number in enumerate(row)))
    return tuple(behind)


def walk_of_webs(rows, most, many=10 ** 6):
    """All rows that turns lead to, None if some size is above the most or there are more than so many."""
    met = {rows}
    latest = [rows]
    while latest:
        further = []
        for now in latest:
            for place in range(len(now)):
                behind = by_sums(now, place)
                if behind not in met:
                    if max(abs(number) for row in behind for number in row) > most or len(met) == many:
                        return None
                    met.add(behind)
                    further.append(behind)
        latest = further
    return met
