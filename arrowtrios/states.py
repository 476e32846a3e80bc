"""What boards and books are between two changes, steps back, and trials."""

from arrowtrios.errors import NothingToUndo


class State:
    """What is held at a time, never changed.

    `below` is the state that a step back leads to, None if there is none, and `many` is
    how many steps back there are.
    """

    def __init__(self, held, below, many):
        self.held = held
        self.below = below
        self.many = many

    def then(self, held):
        """Return the state one step further, with what is held there."""
        return State(held, self, self.many + 1)

    def back(self):
        """Return the state that a step back leads to."""
        if self.below is None:
            raise NothingToUndo()
        return self.below


class Begun:
    """The state when a trial began, and what had begun of the same trial ahead of that."""

    def __init__(self, state, outer):
        self.state = state
        self.outer = outer


class Trial:
    """For a `with` statement, at whose end a board or a book is as it was when its rows began.

    The one that keeps the state has it as `_now`. The same trial may stand within itself;
    so what has begun is a chain.
    """

    def __init__(self, keeper):
        self._keeper = keeper
        self._begun = None

    def __enter__(self):
        self._begun = Begun(self._keeper._now, self._begun)
        return self._keeper

    def __exit__(self, kind, value, trace):
        keeper = self._keeper
        keeper._now = self._begun.state
        self._begun = self._begun.outer
