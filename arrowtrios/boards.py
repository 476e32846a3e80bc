"""Boards: a standing that is led turn by turn, with steps taken back, and trials."""

from arrowtrios.standings import check_standing, turned
from arrowtrios.states import State, Trial


class Board:
    """A standing that changes by turns, each call being one step."""

    def __init__(self, standing):
        check_standing(standing)
        self._now = State(standing, None, 0)

    @property
    def numbers(self):
        """The triple of the numbers as they are now."""
        return self._now.held.numbers

    @property
    def changes(self):
        """How many steps can be taken back."""
        return self._now.many

    def standing(self):
        """Return the Standing as it is now."""
        return self._now.held

    def turn(self, word, times=1):
        """Do the turns of a word, so many times."""
        self.go(((word, times),))

    def go(self, turns):
        """Do a row of turns, as one step."""
        self._now = self._now.then(turned(self._now.held, turns))

    def undo(self):
        """Take back the last step that has not been taken back."""
        self._now = self._now.back()

    def trial(self):
        """Return what makes a trial of a `with` statement; `as` gives the board."""
        return Trial(self)

    def tried(self, action):
        """Return what a function returns that is called with the board within a trial."""
        with self.trial() as board:
            return action(board)
