"""A book made of plain rows, to compare with; its claims are looked at by walks from standing to standing."""

import itertools

from arrowtrios.errors import Broken, InUse, InvalidIndex, NothingToUndo, UnknownName
from tests.walks import foot_by_walk, is_least_ring, left_in_kind, turns_between

NAMINGS = ["".join(letters) for letters in itertools.permutations("abc")]


def seen(book):
    """All that a book tells of itself."""
    standings = {name: book[name].numbers for name in book.names}
    return standings, book.claims, book.changes, len(book), bool(book)


def undone(book):
    """What a book tells behind each step back, down to the beginning; the book is there then."""
    found = []
    while book.changes > 0:
        book.undo()
        found.append(seen(book))
    return found


def named(numbers, naming):
    """The numbers renamed, looked up by pairs of places."""
    x, y, z = numbers
    arrows = {"ab": x, "ba": -x, "bc": y, "cb": -y, "ca": z, "ac": -z}
    first, second, third = naming
    return (arrows[first + second], arrows[second + third], arrows[third + first])


def plainly_holds(claim, standings):
    """Whether a claim holds of some triples by their names, by walks."""
    word, one, *others = claim
    numbers = standings[one]
    if word == "kind":
        return foot_by_walk(numbers) == foot_by_walk(standings[others[0]])
    if word == "alike":
        goal = foot_by_walk(standings[others[0]])
        return any(foot_by_walk(named(numbers, naming)) == goal for naming in NAMINGS)
    if word == "ringed":
        return all(is_least_ring(member) for member in foot_by_walk(numbers))
    if word == "turns":
        fewest = turns_between(numbers, standings[others[0]])
        return fewest is not None and fewest <= others[1]
    return others[1] not in left_in_kind(numbers, others[0])


def names_of(claim):
    """The names in a claim."""
    return claim[1:3] if claim[0] in ("kind", "alike", "turns") else claim[1:2]


class PlainBook:
    """The book as [14] tells it, for right values only; it raises the errors that depend on what it has."""

    def __init__(self):
        self.standings, self.claims, self.past = {}, [], []

    def seen(self):
        many = len(self.standings)
        return dict(sorted(self.standings.items())), tuple(self.claims), len(self.past), many, many > 0

    def step(self, standings, claims):
        for index, claim in enumerate(claims):
            if not plainly_holds(claim, standings):
                raise Broken(index)
        self.past.append((self.standings, self.claims))
        self.standings, self.claims = standings, claims

    def put(self, name, numbers):
        self.step({**self.standings, name: numbers}, self.claims)

    def drop(self, name):
        if name not in self.standings:
            raise UnknownName(name)
        for index, claim in enumerate(self.claims):
            if name in names_of(claim):
                raise InUse(index)
        self.step({key: value for key, value in self.standings.items() if key != name}, self.claims)

    def claim(self, claim):
        for name in names_of(claim):
            if name not in self.standings:
                raise UnknownName(name)
        self.step(self.standings, [*self.claims, claim])

    def lift(self, index):
        if index not in range(len(self.claims)):
            raise InvalidIndex(index)
        self.step(self.standings, self.claims[:index] + self.claims[index + 1:])

    def undo(self):
        if not self.past:
            raise NothingToUndo()
        self.standings, self.claims = self.past.pop()
