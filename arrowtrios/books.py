"""Books: standings under names, with claims that hold after each change."""

from arrowtrios.checks import is_integer_within, is_name, is_worded
from arrowtrios.claims import holds, is_claim, names_in
from arrowtrios.errors import Broken, InUse, InvalidClaim, InvalidDeeds, InvalidIndex, InvalidName, UnknownName
from arrowtrios.standings import check_standing
from arrowtrios.states import State, Trial

# The words of deeds, and how many elements a deed has with each of them.
DEEDS = (("set", 3), ("drop", 2), ("claim", 2), ("lift", 2))


class Pages:
    """What a book holds between two changes: a dict of standings by their names, and a tuple of claims."""

    def __init__(self, standings, claimed):
        self.standings = standings
        self.claimed = claimed


class Book:
    """Standings under names, and a row of claims about them."""

    def __init__(self):
        self._now = State(Pages({}, ()), None, 0)

    @property
    def names(self):
        """The ascending tuple of the names."""
        return tuple(sorted(list(self._now.held.standings)))

    @property
    def claims(self):
        """The tuple of the claims, as they were passed."""
        return self._now.held.claimed

    @property
    def changes(self):
        """How many changes can be taken back."""
        return self._now.many

    def __contains__(self, x):
        return isinstance(x, str) and x in self._now.held.standings

    def __len__(self):
        return len(self._now.held.standings)

    def __iter__(self):
        # Without it Python would iterate over a book by asking for 0, 1, 2 .. as names.
        raise TypeError("a book is not iterated over")

    def __getitem__(self, at):
        if at not in self:
            raise UnknownName(at)
        return self._now.held.standings[at]

    def __setitem__(self, at, worth):
        if not is_name(at):
            raise InvalidName(at)
        check_standing(worth)
        pages = self._now.held
        standings = {**pages.standings, at: worth}
        check_claims_of(at, pages.claimed, standings)
        self._now = self._now.then(Pages(standings, pages.claimed))

    def drop(self, name):
        """Take the standing with this name away."""
        if name not in self:
            raise UnknownName(name)
        pages = self._now.held
        for index, claim in enumerate(pages.claimed):
            if name in names_in(claim):
                raise InUse(index)
        standings = {key: pages.standings[key] for key in pages.standings if key != name}
        self._now = self._now.then(Pages(standings, pages.claimed))

    def claim(self, claim):
        """Put a claim behind the others."""
        if not is_claim(claim):
            raise InvalidClaim(claim)
        for name in names_in(claim):
            if name not in self:
                raise UnknownName(name)
        pages = self._now.held
        # The claims ahead of it hold, and go on to do so.
        if not holds(claim, pages.standings):
            raise Broken(len(pages.claimed))
        self._now = self._now.then(Pages(pages.standings, (*pages.claimed, claim)))

    def lift(self, index):
        """Take the claim with this index away."""
        pages = self._now.held
        if not is_integer_within(index, 0, len(pages.claimed) - 1):
            raise InvalidIndex(index)
        left = pages.claimed[:index] + pages.claimed[index + 1:]
        self._now = self._now.then(Pages(pages.standings, left))

    def undo(self):
        """Take back the last change that has not been taken back."""
        self._now = self._now.back()

    def do_all(self, *deeds, watch=None):
        """Do several changes, or none if one of them fails; return how many they are."""
        check_deeds(deeds)
        outcome = self._now
        try:
            for deed in deeds:
                self._do(deed)
                if watch is not None:
                    watch(self)
            outcome = self._now
        finally:
            self._now = outcome
        return len(deeds)

    def _do(self, deed):
        """Do one deed."""
        word = deed[0]
        if word == "set":
            self[deed[1]] = deed[2]
        elif word == "drop":
            self.drop(deed[1])
        elif word == "claim":
            self.claim(deed[1])
        else:
            self.lift(deed[1])

    def trial(self):
        """Return what makes a trial of a `with` statement; `as` gives the book."""
        return Trial(self)

    def tried(self, action):
        """Return what a function returns that is called with the book within a trial."""
        with self.trial() as book:
            return action(book)


def check_claims_of(name, claims, standings):
    """Raise Broken with the index of the first claim that does not hold, where only this name has changed."""
    for index, claim in enumerate(claims):
        if name in names_in(claim) and not holds(claim, standings):
            raise Broken(index)


def check_deeds(deeds):
    """Raise InvalidDeeds with the index of the first value that is no deed."""
    for index, deed in enumerate(deeds):
        if not is_worded(deed, DEEDS):
            raise InvalidDeeds(index)
